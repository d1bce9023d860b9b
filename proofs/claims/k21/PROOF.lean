import PyProof.Rows.All
import Wide.All
import OpenK.AllK
import Wide.FinOn
import Lean
import PyProof.EqAt
import PyProof.EqKinds
import PyProof.TupleCall
import KE.KDictList
import KE.KMinKey
import OpenK.XHead
import PySem.Challenge.RW_stepjudge_k21_lines_that_hold_nowhere
open PySem.W (methodObj Frag keepIn fnOf codeIn kia_one nsIn mg_of ns_none_of mg_none_of)
open PySem.Heap (lt_size SameBut get?_push_of_some get?_push_size size_push IsTuple IsList)
open Nat (lt_of_lt_of_le lt_irrefl ne_of_lt le_trans mul_one le_refl succ_mul add_comm le_of_eq lt_of_le_of_lt lt_trans zero_le le_add_right zero_add min_self one_mul mul_le_mul_left dvd_trans lcm sub_zero add_le_add mul_le_mul le_of_dvd add_sub_cancel reduceAdd reduceSub reduceEqDiff reduceLeDiff pow_add pow_le_pow_right pow_pos one_lt_two_pow mul_add)
open List (mem_filter mem_cons_self mem_cons_of_mem mem_cons append_assoc mem_append mem_append_left getElem?_set_self getElem?_set_ne mem_append_right size_toArray append_nil nodup_cons of_mem_zip length_take getElem?_append_right getElem?_replicate getElem?_append_left getElem?_map mem_of_getElem? length_append length_map length_replicate length_drop length_set all_cons any_cons replicate_succ flatten_cons foldl foldl_cons length_singleton nil_append map_nil map_cons getElem?_cons_succ getElem?_cons_zero drop_zero drop_eq_nil_of_le length_range getElem?_eq_getElem not_mem_nil mem_map cons_append length_cons zip_cons_cons all_map all_eq_true all_nil map_map length_zip map_congr_left map_append mem_singleton zipWith getD_eq_getElem?_getD length_zipWith range_succ mem_of_find?_eq_some find?_some filter_cons length_filter_le length_nil range' getElem_mem set_cons_zero set_cons_succ foldl_nil isEmpty mem_replicate map_take length_range')
open Rat (le_of_lt mkRat_self intCast_mul inv_pos mul_eq_zero)
open Array (length_toList toList forIn_toList)
open Int (ne_of_gt toNat_natCast mul_comm natCast_mul gcd gcd_dvd_left gcd_dvd_right natAbs_mul mul_zero natAbs_natCast mul_ne_zero mul_pos natAbs_neg)
open Bool (and_eq_true eq_false_iff or_eq_true false_eq_true)
open Option (map_some map_none bind_none)
set_option Elab.async false
set_option linter.all false
set_option maxRecDepth 100000
namespace L2
noncomputable section
open PySem PySem.Spec PyProof.Rows
abbrev Key:=Sum Int Str
def L0:Key->Value->Bool
 | .inl k,v=>Value.isInt k v
 | .inr x,v=>Value.isStrOf x v
def VJ (w:World):Key->Int
 | .inl k=>hashInt k
 | .inr x=>hashStr w x
theorem eY:∀{k:Key} {v:Value},L0 k v=true->(∃i t,k=Sum.inl i/\v=Value.int i t)\/(∃x t,k=Sum.inr x/\v=Value.str x t)
 | .inl i,v,h=>by
  obtain⟨t,e⟩:=Value.isInt_shape (k:=i) (v:=v) h;exact .inl ⟨i,t,rfl,e⟩
 | .inr x,v,h=>by
  obtain⟨t,e⟩:=Value.isStrOf_shape (x:=x) (v:=v) h;exact .inr ⟨x,t,rfl,e⟩
theorem Ph(a b:Int):decide ((Sum.inl a:Key)=Sum.inl b)=(a==b):=by
 by_cases e:a=b
 ·subst e;simp
 ·have h:¬(Sum.inl a:Key)=Sum.inl b:=λq=>e (Sum.inl.inj q);rw[decide_eq_false h];exact(beq_eq_false_iff_ne.mpr e).symm
theorem Pe(a b:Str):decide ((Sum.inr a:Key)=Sum.inr b)=decide (a=b):=by
 by_cases e:a=b
 ·subst e;simp
 ·have h:¬(Sum.inr a:Key)=Sum.inr b:=λq=>e (Sum.inr.inj q);rw[decide_eq_false h,decide_eq_false e]
theorem Pg(a:Int)(b:Str):decide ((Sum.inl a:Key)=Sum.inr b)=false:=decide_eq_false (λq=>nomatch q)
theorem Pf(a:Str)(b:Int):decide ((Sum.inr a:Key)=Sum.inl b)=false:=decide_eq_false (λq=>nomatch q)
def vX (prog:Program) (w:World):PySem.KeyKind prog w Key where
 is:=L0
 hash:=VJ w
 inj:=λv a b ha hb=>by
  rcases eY ha with⟨i,t,rfl,rfl⟩|⟨x,t,rfl,rfl⟩
  ·rcases eY hb with⟨j,u,rfl,e⟩|⟨y,u,rfl,e⟩
   ·injection e with e1 _;rw[e1]
   ·exact nomatch e
  ·rcases eY hb with⟨j,u,rfl,e⟩|⟨y,u,rfl,e⟩
   ·exact nomatch e
   ·injection e with e1 _;rw[e1]
 byValue:=λk v h=>by
  rcases eY h with⟨i,t,rfl,rfl⟩|⟨x,t,rfl,rfl⟩<;>rfl
 pyHash:=λhv h=>by
  rcases eY hv with⟨i,t,rfl,rfl⟩|⟨x,t,rfl,rfl⟩
  ·exact wpAny_pyHash_int h
  ·exact wpAny_pyHash_str h
 eqBool:=λhu hv h=>by
  rcases eY hu with⟨i,t,rfl,rfl⟩|⟨x,t,rfl,rfl⟩
  ·rcases eY hv with⟨j,u,rfl,rfl⟩|⟨y,u,rfl,rfl⟩
   ·rw[Ph]at h;exact wpAny_eqBool_int h
   ·rw[Pg]at h;exact SeqAt.EqAt.int_str i t y u _ _ _ _ h
  ·rcases eY hv with⟨j,u,rfl,rfl⟩|⟨y,u,rfl,rfl⟩
   ·rw[Pf]at h;exact SeqAt.EqAt.str_int x t j u _ _ _ _ h
   ·rw[Pe]at h;exact wpAny_eqBool_str h
 «strs»:=λk x t v h=>by
  rcases eY h with⟨i,u,rfl,e⟩|⟨y,u,rfl,e⟩
  ·exact nomatch e
  ·injection e with e1 _;subst e1;cases v<;>rfl
open PySem PySem.Spec PyProof.Rows
inductive V where
 |bO|bl (b:Bool)|int (i:Int)|str (x:Str)|mZ (b:Array UInt8)|Qb (b:UInt64)|ref (a:Addr)|ty (n:String)
 deriving DecidableEq
def RelV:V->Value->Prop
 | .bO,u=>u=Value.none
 | .bl b,u=>u=Value.bool b
 | .int i,u=>∃t,u=Value.int i t
 | .str x,u=>∃t,u=Value.str x t
 | .mZ b,u=>∃t,u=Value.bytes b t
 | .Qb b,u=>∃t,u=Value.float b t
 | .ref a,u=>u=Value.ref a
 | .ty n,u=>u=Value.type n
abbrev Vals:List V->List Value->Prop:=Paired RelV
variable {xs:List V} {us:List Value}
theorem Vals.length(r:Vals xs us):xs.length=us.length:=Paired.length r
theorem Vals.get:∀{xs:List V} {us:List Value} {i:Nat} {x:V},Vals xs us->xs[i]?=some x->∃u,us[i]?=some u/\RelV x u
 |_,_,_,_,.nil,e=>by simp at e
 |_,_,0,_,.cons r _,e=>by simp at e;subst e;exact⟨_,rfl,r⟩
 |_,_,i+1,x,.cons _ t,e=>by
  obtain⟨u,h1,h2⟩:=Vals.get (i:=i) (x:=x) t (by simpa using e);exact⟨u,by simpa using h1,h2⟩
theorem Vals.set{x:V}{u:Value}(r:RelV x u):∀{xs:List V} {us:List Value} (i:Nat),Vals xs us->Vals (xs.set i x) (us.set i u)
 |_,_,_,.nil=>.nil
 |_,_,0,.cons _ t=>.cons r t
 |_,_,i+1,.cons q t=>.cons q (Vals.set r i t)
theorem Vals.append:∀{xs ys:List V} {us ws:List Value},Vals xs us->Vals ys ws->Vals (xs++ys) (us++ws)
 |_,_,_,_,.nil,s=>s
 |_,_,_,_,.cons r t,s=>.cons r (Vals.append t s)
theorem Vals.take:∀{xs:List V} {us:List Value} (n:Nat),Vals xs us->Vals (xs.take n) (us.take n)
 |_,_,0,_=>.nil
 |_,_,_+1,.nil=>.nil
 |_,_,n+1,.cons r t=>.cons r (Vals.take n t)
theorem Vals.drop:∀{xs:List V} {us:List Value} (n:Nat),Vals xs us->Vals (xs.drop n) (us.drop n)
 |_,_,0,r=>r
 |_,_,_+1,.nil=>.nil
 |_,_,n+1,.cons _ t=>Vals.drop n t
def Ri:Option V->Option Value->Prop
 |some v,some u=>RelV v u
 |none,none=>True
 |_,_=>False
def KV {κ:Type}:List (κ×V)->List (κ×Value)->Prop:=Paired fun(p:κ×V) (q:κ×Value)=>p.1=q.1/\RelV p.2 q.2
def kV:Key->V
 | .inl i=>.int i
 | .inr x=>.str x
inductive HO where
 /-- a list -/
 |lst (xs:List V)
 /-- a tuple (never changes) -/
 |tup (xs:List V)
 /-- a dict RJ keys are ints and texts;one RJ keys are tuples of ints and texts (BA empty one is both) -/
 |dK (gc:List (Key×V))|dT (gc:List (List Key×V))
 /-- a set of ints: ak members,ak size -/
 |set (S:Int->Bool) (n:Nat)
 /-- an instance of BA class at C,ak dict at dx,ak attributes -/
 |ins (C dx:Addr) (fs:List (Str×V))
 /-- BA dict of BA instance at x -/
 |own (x:Addr)
 /-- BA dict of an exception -/
 |xd (fs:List (Str×V))
 /-- a bound method,f of x -/
 |met (f x:Addr)
 /-- a range object lo,lo+1,.. below hi -/
 |Oj (lo hi:Int)
 /-- a RN that is known to BA object (BA script;a dict RL a loop walks it): read,never written RL it is so -/
 |q5 (o:Obj) (u:HO)
 /-- a code object's table -/
 |yz (ps:Array Value)
 /-- any other RN,by what is true of ak one object (a def of one's own: SetO a S n:=HO.ext λh=>..) -/
 |ext (φ:Heap->Prop)
abbrev Hp:=Addr->Option HO
def upd (H:Hp) (a:Addr) (o:HO):Hp:=λb=>if b=a then some o else H b
variable {H:Hp} {a:Addr} {o:HO}
theorem eA:upd H a o a=some o:=by unfold upd;rw[if_pos rfl]
variable {b:Addr}
theorem bC(h:b≠a):upd H a o b=H b:=by unfold upd;rw[if_neg h]
theorem bz(h:H a=some o)(h':H b=none):a≠b:=by
 intro e;subst e;rw[h]at h';cases h'
section
variable (P:Program) (w:World)
def gE (H:Hp) (h:Heap) (a:Addr):HO->Prop
 | .lst xs=>xs.length<=sizeLine/\∃(ak:List Value) (n:Nat),Vals xs ak/\h.get? a=some {cls:=.type "list",data:=.seq ak.toArray n}
 | .tup xs=>xs.length<=sizeLine/\∃ak:List Value,Vals xs ak/\IsTup h a ak.toArray
 | .dK gc=>gc.length<=sizeLine/\(a==sysModules)=false/\∃vs,KV gc vs/\h.DictOf (vX P w) a vs
 | .dT gc=>gc.length<=sizeLine/\(a==sysModules)=false/\∃xs:List (List Key×Addr×Value),
   Paired (fun(p:List Key×V) (q:List Key×Addr×Value)=>p.1=q.1/\H q.2.1=some (.tup (p.1.map kV))/\RelV p.2 q.2.2) gc xs/\
   ∃o es ep,h.get? a=some o/\o.ExactDict/\o.data=.dict es ep/\es.toList=xs.map (entryOfKey (tupleKind (vX P w)))/\(xs.map (·.1)).Nodup
 | .set S n=>h.SetOf (intKind P w) a S n
 | .ins C dx fs=>H dx=some (.own a)/\fs.length<=1000/\dx≠a/\h.get? a=some (PySem.W.instObj C dx)/\
   ∃mA,h.Ns1 dx mA/\(∀f,Ri (fs.lookup f) (mA f))/\PySem.Within mA (fs.map (·.1))
 | .own _=>∃o,h.get? a=some o
 | .xd fs=>∃mA,h.Ns1 a mA/\∀f,Ri (fs.lookup f) (mA f)
 | .Oj lo hi=>∃t u v,h.get? a=some {cls:=.type "range",data:=.fields #[.int lo t,.int hi u,.int 1 v]}
 | .q5 o u=>h.get? a=some o/\gE H h a u
 | .yz ps=>h.get? a=some {cls:=.none,data:=.fields ps}
 | .met f x=>h.get? a=some (methodObj (.ref f) (.ref x))
 | .ext φ=>φ h/\(∃o,h.get? a=some o)/\∀h1 h2:Heap,φ h1->(∀o,h1.get? a=some o->h2.get? a=some o)->φ h2
def ij (H:Hp) (h:Heap):Prop:=∀a o,H a=some o->gE P w H h a o
end
variable {P:Program} {w:World} {h:Heap}
theorem gE.lt(x:gE P w H h a o):a<h.objs.size:=by
 cases o with
 |lst xs=>obtain⟨_,_,_,_,e⟩:=x;exact lt_size e
 |tup xs=>obtain⟨_,_,_,p⟩:=x;exact p.lt
 |dK gc=>obtain⟨_,_,_,_,o,_,_,e,_⟩:=x;exact lt_size e
 |dT gc=>obtain⟨_,_,_,_,o,_,_,e,_⟩:=x;exact lt_size e
 |set S n=>obtain⟨o,_,_,_,e,_⟩:=x;exact lt_size e
 |ins C dx fs=>obtain⟨_,_,_,e,_⟩:=x;exact lt_size e
 |own y=>obtain⟨_,e⟩:=x;exact lt_size e
 |xd fs=>obtain⟨_,⟨_,_,_,e,_⟩,_⟩:=x;exact lt_size e
 |Oj lo hi=>obtain⟨_,_,_,e⟩:=x;exact lt_size e
 |q5 ob u=>obtain⟨e,_⟩:=x;exact lt_size e
 |yz ps=>exact lt_size (show h.get? a=some _ from x)
 |met f y=>exact lt_size (show h.get? a=some _ from x)
 |ext φ=>obtain⟨_,⟨_,e⟩,_⟩:=x;exact lt_size e
theorem Paired.OZ{α β:Type}{F G:α->β->Prop}:∀{l₁:List α} {l₂:List β},Paired F l₁ l₂->(∀a b,F a b->G a b)->Paired G l₁ l₂
 |_,_,.nil,_=>.nil
 |_,_,.cons r t,f=>.cons (f _ _ r) (Paired.OZ t f)
variable {h':Heap} {H':Hp}
theorem gE.nV(x:gE P w H h a o)(k:∀b u,(b=a\/H b=some (.own a))->h.get? b=some u->h'.get? b=some u)(ho:∀b,H b=some (.own a)->H' b=some (.own a))(ht:∀b xs,H b=some (.tup xs)->H' b=some (.tup xs)):gE P w H' h' a o:=by
 induction o with
 |lst xs=>obtain⟨z,ak,n,r,e⟩:=x;exact⟨z,ak,n,r,k _ _ (.inl rfl) e⟩
 |tup xs=>obtain⟨z,ak,r,ob,e,c⟩:=x;exact⟨z,ak,r,ob,k _ _ (.inl rfl) e,c⟩
 |dK gc=>obtain⟨z,y,vs,r,ob,es,ep,e,c⟩:=x;exact⟨z,y,vs,r,ob,es,ep,k _ _ (.inl rfl) e,c⟩
 |dT gc=>
  obtain⟨z,y,xs,r,ob,es,ep,e,c⟩:=x;exact⟨z,y,xs,Paired.OZ r λp q z=>⟨z.1,ht _ _ z.2.1,z.2.2⟩,ob,es,ep,k _ _ (.inl rfl) e,c⟩
 |set S n=>obtain⟨ob,es,ep,t,e,c⟩:=x;exact⟨ob,es,ep,t,k _ _ (.inl rfl) e,c⟩
 |ins C dx fs=>
  obtain⟨d,z,ne,e,mA,⟨od,es,ep,e2,c⟩,r⟩:=x;exact⟨ho _ d,z,ne,k _ _ (.inl rfl) e,mA,⟨od,es,ep,k _ _ (.inr d) e2,c⟩,r⟩
 |own y=>obtain⟨ob,e⟩:=x;exact⟨ob,k _ _ (.inl rfl) e⟩
 |xd fs=>obtain⟨mA,⟨od,es,ep,e,c⟩,r⟩:=x;exact⟨mA,⟨od,es,ep,k _ _ (.inl rfl) e,c⟩,r⟩
 |Oj lo hi=>obtain⟨t,u,v,e⟩:=x;exact⟨t,u,v,k _ _ (.inl rfl) e⟩
 |q5 ob u ih=>obtain⟨e,q⟩:=x;exact⟨k _ _ (.inl rfl) e,ih q⟩
 |yz ps=>
  have e:h.get? a=some {cls:=.none,data:=.fields ps}:=x;show h'.get? a=some {cls:=.none,data:=.fields ps};exact k a _ (.inl rfl) e
 |met f y=>
  have e:h.get? a=some (methodObj (.ref f) (.ref y)):=x;show h'.get? a=some (methodObj (.ref f) (.ref y));exact k a _ (.inl rfl) e
 |ext φ=>obtain⟨p,⟨o,e⟩,st⟩:=x;exact⟨st _ _ p λo q=>k _ _ (.inl rfl) q,⟨o,k _ _ (.inl rfl) e⟩,st⟩
theorem ij.lt(x:ij P w H h)(e:H a=some o):a<h.objs.size:=(x a o e).lt
theorem ij.fresh(x:ij P w H h)(e:h.objs.size<=a):H a=none:=by
 cases q:H a with
 |none=>rfl
 |some u=>exact absurd (lt_of_lt_of_le (x.lt q) e) (lt_irrefl _)
theorem ij.kept(x:ij P w H h)(k:∀b u,h.get? b=some u->h'.get? b=some u):ij P w H h':=λa o e=>
 (x a o e).nV (λb u _ q=>k b u q) (λ_ q=>q) λ_ _ q=>q
theorem ij.laid(x:ij P w H h)(k:∀b u,h.get? b=some u->h'.get? b=some u)(hp:h.objs.size<=a)(new:gE P w (upd H a o) h' a o):ij P w (upd H a o) h':=λb u e=>by
 have hn:=x.fresh hp;by_cases hb:b=a
 ·subst hb;rw[eA]at e;cases e;exact new
 ·rw[bC hb]at e;exact(x b u e).nV (λc v _ q=>k c v q) (λc q=>by rw[bC (bz q hn)];exact q) λc xs q=>by rw[bC (bz q hn)];exact q
def Rd (H:Hp) (a:Addr) (u:HO):Prop:=H a=some u\/∃o,H a=some (.q5 o u)
theorem Rd.ok{u:HO}(r:Rd H a u)(x:ij P w H h):gE P w H h a u:=by
 rcases r with r|⟨o,r⟩
 ·exact x a u r
 ·obtain⟨_,q⟩:=x a _ r;exact q
def LS:Option HO->Prop
 |some (.lst _)=>True
 |some (.dK _)=>True
 |some (.dT _)=>True
 |some (.set _ _)=>True
 |some (.ins _ _ _)=>True
 |some (.ext _)=>True
 |_=>False
variable {o':HO} {x e:Addr}
theorem ij.write(ok:ij P w H h)(mu:LS (H x))(he:e=x\/H e=some (.own x))(k:∀b u,b≠e->h.get? b=some u->h'.get? b=some u)(Cy:∃u,h'.get? e=some u)(new:gE P w (upd H x o') h' x o'):ij P w (upd H x o') h':=λb u q=>by
 have OV:∀c y,H c=some (.own y)->c≠x:=λc y r z=>by subst z;rw[r]at mu;exact mu
 have VC:∀c xs,H c=some (.tup xs)->c≠x:=λc xs r z=>by subst z;rw[r]at mu;exact mu
 by_cases hb:b=x
 ·subst hb;rw[eA]at q;cases q;exact new
 ·rw[bC hb]at q;by_cases A6:b=e
  ·have q':H b=some (.own x):=by
    rcases he with z|z
    ·exact absurd (A6.trans z) hb
    ·rw[A6];exact z
   rw[q]at q';cases q';obtain⟨v,hv⟩:=Cy;exact⟨v,by rw[A6];exact hv⟩
  ·refine(ok b u q).nV (λc v hc r=>k c v ?_ r) (λc r=>by rw[bC (OV c b r)];exact r) λc xs r=>by rw[bC (VC c xs r)];exact r
   rcases hc with rfl|hc
   ·exact A6
   ·rintro rfl;rcases he with z|z
    ·exact OV c b hc z
    ·rw[hc]at z;cases z;exact hb rfl
structure Un (fs ex:List Addr) (H H':Hp) (h h':Heap):Prop where
 keep:∀b o,h.get? b=some o->H b=none->b∉fs->b∉ex->h'.get? b=some o
 slot:∀b o,h.get? b=some o->H b=none->b∈fs->b∉ex->∃sl,h'.get? b=some {o with slots:=sl}
 free:∀b o,h.get? b=some o->H b=none->b∉ex->H' b=none
 there:∀b o,h.get? b=some o->b∉ex->∃o',h'.get? b=some o'
 nR:∀b xs,H b=some (.tup xs)->H' b=some (.tup xs)
 lJ:∀b o u,H b=some (.q5 o u)->H' b=some (.q5 o u)
 nU:∀b ps,H b=some (.yz ps)->∃more,H' b=some (.yz (ps++more))
variable {ex:List Addr} {h1:Heap} {H1:Hp}
variable {fs:List Addr} in
theorem Un.any(u:Un fs ex H H1 h h1){ob:Obj}(q:h.get? b=some ob)(n:H b=none)(hx:b∉ex):∃sl,h1.get? b=some {ob with slots:=sl}:=by
 by_cases hb:b∈fs
 ·exact u.slot b ob q n hb hx
 ·exact⟨ob.slots,u.keep b ob q n hb hx⟩
variable {fs:List Addr} in
theorem Un.kept(k:∀b u,h.get? b=some u->h'.get? b=some u):Un fs ex H H h h':=
 ⟨λb ob q _ _ _=>k b ob q,λb ob q _ _ _=>⟨ob.slots,k b ob q⟩,λ_ _ _ n _=>n,λb ob q _=>⟨ob,k b ob q⟩,λ_ _ q=>q,λ_ _ _ q=>q,λ_ ps q=>⟨#[],by rw[q];simp⟩⟩
variable {fs:List Addr} in
theorem Un.refl:Un fs ex H H h h:=Un.kept λ_ _ q=>q
variable {fs:List Addr} in
theorem Un.laid(k:∀b u,h.get? b=some u->h'.get? b=some u)(hp:h.objs.size<=a)(hn:H a=none):Un fs ex H (upd H a o) h h' where
 keep:=λb u q _ _ _=>k b u q
 slot:=λb u q _ _ _=>⟨u.slots,k b u q⟩
 free:=λb u q n _=>by rw[bC (ne_of_lt (lt_of_lt_of_le (lt_size q) hp))];exact n
 there:=λb u q _=>⟨u,k b u q⟩
 nR:=λb xs q=>by rw[bC (bz q hn)];exact q
 lJ:=λb u xs q=>by rw[bC (bz q hn)];exact q
 nU:=λb ps q=>⟨#[],by rw[bC (bz q hn),q];simp⟩
variable {fs:List Addr} in
theorem Un.write(mu:LS (H x))(he:e=x\/H e=some (.own x))(k:∀b u,b≠e->h.get? b=some u->h'.get? b=some u)(Cy:∃u,h'.get? e=some u):Un fs ex H (upd H x o) h h':=by
 have hx:∀b,H b=none->b≠x:=λb n z=>by subst z;rw[n]at mu;exact mu
 have hb:∀b,H b=none->b≠e:=λb n z=>by
  subst z;rcases he with r|r
  ·exact hx b n r
  ·rw[n]at r;cases r
 have hm:∀b u,H b=some u->¬LS (some u)->b≠x:=λb u q nm z=>by subst z;rw[q]at mu;exact nm mu
 refine⟨λb u q n _ _=>k b u (hb b n) q,λb u q n _ _=>⟨u.slots,k b u (hb b n) q⟩,λb u q n _=>by rw[bC (hx b n)];exact n,λb u q _=>?_,
  λb xs q=>by rw[bC (hm b _ q λz=>z)];exact q,λb u xs q=>by rw[bC (hm b _ q λz=>z)];exact q,λb ps q=>⟨#[],by rw[bC (hm b _ q λz=>z),q];simp⟩⟩
 by_cases A6:b=e
 ·subst A6;exact Cy
 ·exact⟨u,k b u A6 q⟩
def Kk (h:Heap) (H:Hp):List Addr:=(List.range h.objs.size).filter λa=>(H a).isSome
def pA (h:Heap) (H:Hp):Heap:=PySem.W.hideAll h (Kk h H)
theorem GS(h:Heap)(H:Hp):(pA h H).objs.size=h.objs.size:=PySem.W.hideAll_size _ _
variable {o:Obj}
theorem Js(e:h.get? b=some o)(n:H b=none):(pA h H).get? b=some o:=
 PySem.W.hideAll_get _ e λhm=>by
  have q:(H b).isSome=true:=(mem_filter.mp hm).2;rw[n]at q;simp at q
theorem MM(e:(pA h H).get? b=some o):h.get? b=some o/\H b=none:=by
 have e':h.get? b=some o:=PySem.W.of_hideAll (Kk h H) e;refine⟨e',?_⟩;cases q:H b with
 |none=>rfl
 |some x=>
  have hm:b∈Kk h H:=mem_filter.mpr ⟨List.mem_range.mpr (lt_size e'),by simp[q]⟩;have z:(pA h H).get? b=none:=PySem.W.hideAll_none (Kk h H) hm;rw[z]at e;cases e
def Nu (g h:Heap) (L:Addr):List (Addr×Obj):=(List.range h.objs.size).filterMap λa=>if a=L\/(g.get? a).isSome=true then none else(h.get? a).map λo=>(a,o)
def rest (g h:Heap) (L d:Addr):List (Addr×Obj):=(Nu g h L).filter λp=>decide (p.1≠d)
open PySem PySem.Spec PyProof.Rows
structure Mod (K:Frag) (mg:Str->Option Value) (base:Heap):Prop where
 uO:K.In base
 glob:base.Ns mainGlobals mg
 blt:∃mb,base.Ns builtinsNs mb/\∀x:Str,x≠"__name__"->mb x=bootBuiltins x
 nolimit:base.NoLimit
structure Cx where
 prog:Program
 w:World
 K:Frag
 mg:Str->Option Value
 base:Heap
 A:Around
 N:List Str
 aL:Shared
 ah:Hp
 env:Env
 outer:List Env
 stack:List Env
 ex:List Addr
 fn:Str->Bool
 calm:Bool
 pn:List (Addr×Obj)
 xe:Value->Shared->Prop
def lx (l:List Env):List Addr:=l.filterMap (·.frame)
abbrev Cx.fs (X:Cx):List Addr:=lx X.outer
def n8 (sc:Scope) (x:Str):Prop:=sc.names.lookup x=some .local\/sc.names.lookup x=some .cell\/sc.names.lookup x=some .free
def Loc (sc:Scope) (x:Str):Prop:=sc.names.lookup x=some .local\/sc.names.lookup x=some .cell
def Look (env:Env) (h:Heap) (m:Str->Option Value) (x:Str) (u:Value):Prop:=
 (env.kindOf x=some .local/\m x=some u)\/((env.kindOf x=some .cell\/env.kindOf x=some .free)/\∃c,env.cells.lookup x=some c/\h.IsCell c (some u))
structure Cx.Ok (X:Cx):Prop where
 mod:Mod X.K X.mg X.base
 kind:X.env.scope.kind=.function
 glob:X.env.globals=mainGlobals
 blt:X.env.builtins=builtinsNs
 above:X.aL.heap.objs.size<=X.env.locals
 inj:∀x y c,X.env.cells.lookup x=some c->X.env.cells.lookup y=some c->x=y
 has:∀x,(X.env.kindOf x=some .cell\/X.env.kindOf x=some .free)->∃c,X.env.cells.lookup x=some c
 HU:∀x c,X.fn x=true->X.env.cells.lookup x=some c->X.aL.heap.objs.size<=c
 hd:X.calm=true->X.A.handled=none
 frames:X.A.frames=some X.stack
 Kt:X.stack=X.outer\/(X.stack=X.env::X.outer/\X.env.frame=some X.env.locals)
 CS:∀b∈X.ex,b≠X.env.locals/\∀x c,X.env.cells.lookup x=some c->c≠b
 bs:∀b o,X.base.get? b=some o->X.aL.heap.get? b=some o/\X.ah b=none
 xU:X.base.objs.size<=X.aL.heap.objs.size
 vU:∀b o,X.base.get? b=some o->b∉X.ex
 wg:∀b∈X.ex,b∉X.fs
 mV:X.aL.heap.FunFrames X.base X.outer
 CK:∀b∈X.fs,X.ah b=none
structure Inv (X:Cx) (pins:List (Addr×Obj)) (σ:List (Option V)) (H:Hp) (s:Shared):Prop where
 ok:X.Ok
 os:s.os=X.aL.os
 bare:AllBare s.gens
 base:Un X.fs X.ex X.ah H X.aL.heap s.heap
 loc:∃m,s.heap.Ns X.env.locals m/\∀(i:Nat) (x:Str) (v:V),X.N[i]?=some x->σ[i]?=some (some v)->n8 X.env.scope x->∃u,RelV v u/\Look X.env s.heap m x u
 cell:∀x c,X.env.cells.lookup x=some c->∃v,s.heap.IsCell c v
 free:H X.env.locals=none
 jB:∀x c,X.env.cells.lookup x=some c->H c=none
 pin:∀p∈X.pn++pins,s.heap.get? p.1=some p.2/\H p.1=none/\p.1≠X.env.locals/\p.1∉X.fs/\∀v,p.2.data≠.cell v
 bx:ij X.prog X.w H s.heap
 len:σ.length=X.N.length
variable {X:Cx}
theorem Cx.Ok.VF(ok:X.Ok)(e:X.base.get? b=some o):b∉X.fs:=λhb=>by
 have:=(ok.mV.mem hb).1;rw[e]at this;cases this
variable {σ:List (Option V)} {pins:List (Addr×Obj)}
variable {s:Shared} in
theorem Inv.bs(I:Inv X pins σ H s):∀b o,X.base.get? b=some o->s.heap.get? b=some o/\H b=none:=λb o e=>
 ⟨I.base.keep b o (I.ok.bs b o e).1 (I.ok.bs b o e).2 (I.ok.VF e) (I.ok.vU b o e),I.base.free b o (I.ok.bs b o e).1 (I.ok.bs b o e).2 (I.ok.vU b o e)⟩
variable {s:Shared} in
theorem Inv.bk(I:Inv X pins σ H s):∀b o,X.base.get? b=some o->s.heap.get? b=some o:=λb o e=>(I.bs b o e).1
variable {s:Shared} in
theorem Inv.mod(I:Inv X pins σ H s):Mod X.K X.mg X.base:=I.ok.mod
variable {s:Shared} in
theorem Inv.pT(I:Inv X pins σ H s):X.K.In s.heap:=I.ok.mod.uO.keeps I.bk
variable {s:Shared} in
theorem Inv.nolimit(I:Inv X pins σ H s):s.heap.NoLimit:=I.ok.mod.nolimit.keeps I.bk
variable {s:Shared} in
theorem Inv.lt(I:Inv X pins σ H s):X.env.locals<s.heap.objs.size:=let ⟨_,hn,_⟩:=I.loc;hn.lt
variable {s:Shared} in
theorem Inv.sz(I:Inv X pins σ H s):X.aL.heap.objs.size<=s.heap.objs.size:=le_trans I.ok.above (Nat.le_of_lt I.lt)
variable {s:Shared} in
theorem Inv.VE(I:Inv X pins σ H s)(h:s.heap.objs.size<=a):a∉X.fs:=λhb=>by
 obtain⟨_,o,ho,_⟩:=I.ok.mV.mem hb;exact absurd (lt_of_lt_of_le (lt_size ho) (le_trans I.sz h)) (lt_irrefl _)
variable {s:Shared} in
theorem Inv.AF(I:Inv X pins σ H s):∀x c,X.env.cells.lookup x=some c->c≠X.env.locals:=λx c e z=>by
 obtain⟨v,o,ho,hd⟩:=I.cell x c e;obtain⟨m,⟨o',es,ep,nI,dR,_⟩,_⟩:=I.loc;rw[z,nI]at ho;cases ho;rw[dR]at hd;cases hd
variable {s:Shared} in
theorem Inv.mV(I:Inv X pins σ H s):s.heap.FunFrames X.base X.outer:=by
 have all:∀(l:List Env),(∀b∈lx l,b∈X.fs)->X.aL.heap.FunFrames X.base l->s.heap.FunFrames X.base l:=by
  intro l;induction l with
  |nil=>intro _ _;trivial
  |cons env r ih=>
   intro hs hl;obtain⟨hk,⟨L,o,hf,hn,ho,hd⟩,hr⟩:=hl;have hL:L∈X.fs:=hs L (by unfold lx;rw[List.filterMap_cons,hf];exact mem_cons_self);obtain⟨sl,e⟩:=I.base.slot L o ho (I.ok.CK L hL) hL λz=>I.ok.wg L z hL;exact⟨hk,⟨L,_,hf,hn,e,hd⟩,ih (λb hb=>hs b (by unfold lx;rw[List.filterMap_cons,hf];exact mem_cons_of_mem _ hb)) hr⟩
 exact all X.outer (λ_ hb=>hb) I.ok.mV
variable {s:Shared} in
theorem Inv.stack(I:Inv X pins σ H s):s.heap.FunFrames X.base X.stack:=by
 rcases I.ok.Kt with e|⟨e,hf⟩
 ·rw[e];exact I.mV
 ·rw[e];obtain⟨m,hn,_⟩:=I.loc;refine .cons (by rw[I.ok.kind];decide) hf hn ?_ I.mV;exact Heap.get?_none_of_le (le_trans I.ok.xU I.ok.above)
variable {s:Shared} in
theorem Inv.uj(I:Inv X pins σ H s):∀b∈lx X.stack,b∈X.env.locals::X.fs:=λb hb=>by
 rcases I.ok.Kt with e|⟨e,hf⟩
 ·rw[e]at hb;exact mem_cons_of_mem _ hb
 ·rw[e]at hb;unfold lx at hb;rw[List.filterMap_cons,hf]at hb;exact hb
variable {s:Shared} in
theorem Inv.vI(I:Inv X pins σ H s):∀b∈lx X.stack,H b=none:=λb hb=>by
 rcases mem_cons.mp (I.uj b hb)with e|hb
 ·rw[e];exact I.free
 ·obtain⟨_,o,ho,_⟩:=I.ok.mV.mem hb;exact I.base.free b o ho (I.ok.CK b hb) λz=>I.ok.wg b z hb
variable {t':Nat} {ch:List Addr}
variable {s:Shared} in
theorem Inv.step{g':Array GenState}{d':Drawn}(I:Inv X pins σ H s)(pX:∀b∈ch,(b∈X.ex\/X.aL.heap.objs.size<=b)/\b≠X.env.locals/\(∀x c,X.env.cells.lookup x=some c->c≠b)/\∀p∈X.pn++pins,p.1≠b)(keep:∀b o,b≠X.env.locals->b∉X.fs->b∉ch->s.heap.get? b=some o->H b=none->h'.get? b=some o)(slot:∀b o,b≠X.env.locals->b∈X.fs->b∉ch->s.heap.get? b=some o->H b=none->∃sl,h'.get? b=some {o with slots:=sl})(free:∀b o,b∉ch->s.heap.get? b=some o->H b=none->H' b=none)(there:∀b o,b∉ch->s.heap.get? b=some o->∃o',h'.get? b=some o')(nR:∀b xs,H b=some (.tup xs)->H' b=some (.tup xs))(lJ:∀b o u,H b=some (.q5 o u)->H' b=some (.q5 o u))(nU:∀b ps,H b=some (.yz ps)->∃more,H' b=some (.yz (ps++more)))(ns:∀m,s.heap.Ns X.env.locals m->h'.Ns X.env.locals m)(bx:ij X.prog X.w H' h')(hg:AllBare g'):
  Inv X pins σ H' {s with heap:=h',gens:=g',drawn:=d',toks:=t'}:=by
 have Tf:∀b o,X.aL.heap.get? b=some o->b≠X.env.locals:=λb o e=>ne_of_lt (lt_of_lt_of_le (lt_size e) I.ok.above);have xp:∀b o,X.aL.heap.get? b=some o->b∉X.ex->b∉ch:=λb o e hx hb=>by
  rcases(pX b hb).1 with z|z
  ·exact hx z
  ·exact absurd (lt_of_lt_of_le (lt_size e) z) (lt_irrefl _)
 have cellK:∀x c,X.env.cells.lookup x=some c->∀v,s.heap.IsCell c v->h'.IsCell c v:=λx c e v aP=>by
  obtain⟨o,ho,hd⟩:=aP;have Gu:c∉ch:=λz=>(pX c z).2.2.1 x c e rfl;by_cases hc:c∈X.fs
  ·obtain⟨sl,q⟩:=slot c o (I.AF x c e) hc Gu ho (I.jB x c e);exact⟨_,q,hd⟩
  ·exact⟨o,keep c o (I.AF x c e) hc Gu ho (I.jB x c e),hd⟩
 refine⟨I.ok,I.os,hg,⟨λb o e n hb hx=>?_,λb o e n hb hx=>?_,λb o e n hx=>?_,λb o e hx=>?_,λb xs e=>nR b xs (I.base.nR b xs e),λb o xs e=>lJ b o xs (I.base.lJ b o xs e),λb ps e=>?_⟩,?_,λx c e=>?_,?_,λx c e=>?_,λp hp=>?_,bx,I.len⟩
 ·exact keep b o (Tf b o e) hb (xp b o e hx) (I.base.keep b o e n hb hx) (I.base.free b o e n hx)
 ·obtain⟨sl,e1⟩:=I.base.slot b o e n hb hx;obtain⟨T5,e2⟩:=slot b _ (Tf b o e) hb (xp b o e hx) e1 (I.base.free b o e n hx);exact⟨T5,e2⟩
 ·obtain⟨o',e1⟩:=I.base.there b o e hx;exact free b o' (xp b o e hx) e1 (I.base.free b o e n hx)
 ·obtain⟨o',e1⟩:=I.base.there b o e hx;exact there b o' (xp b o e hx) e1
 ·obtain⟨m1,e1⟩:=I.base.nU b ps e;obtain⟨m2,e2⟩:=nU b _ e1;exact⟨m1++m2,by rw[e2,Array.append_assoc]⟩
 ·obtain⟨m,hn,hl⟩:=I.loc;refine⟨m,ns m hn,λi x v e1 e2 e3=>?_⟩;obtain⟨u,r,l⟩:=hl i x v e1 e2 e3;refine⟨u,r,?_⟩;rcases l with l|⟨k,c,e,z⟩
  ·exact .inl l
  ·exact .inr ⟨k,c,e,cellK x c e _ z⟩
 ·obtain⟨v,z⟩:=I.cell x c e;exact⟨v,cellK x c e v z⟩
 ·obtain⟨m,⟨o,_,_,ho,_⟩,_⟩:=I.loc;exact free _ o (λz=>(pX _ z).2.1 rfl) ho I.free
 ·obtain⟨v,o,ho,hd⟩:=I.cell x c e;exact free c o (λz=>(pX c z).2.2.1 x c e rfl) ho (I.jB x c e)
 ·obtain⟨e,n,ne,nf,d⟩:=I.pin p hp;have Gu:p.1∉ch:=λz=>(pX p.1 z).2.2.2 p hp rfl;exact⟨keep p.1 p.2 ne nf Gu e n,free p.1 p.2 Gu e n,ne,nf,d⟩
variable {s:Shared} in
theorem Inv.un(I:Inv X pins σ H s)(u:Un X.fs [] H H' s.heap h')(bx:ij X.prog X.w H' h'):Inv X pins σ H' {s with heap:=h',toks:=t'}:=by
 obtain⟨m,⟨o,es,ep,ho,r⟩,_⟩:=id I.loc;obtain⟨sl,hL⟩:=u.any ho I.free (by simp);exact I.step (g':=s.gens) (d':=s.drawn) (ch:=[]) (λ_ z=>nomatch z) (λb o _ hb _ e n=>u.keep b o e n hb (by simp)) (λb o _ hb _ e n=>u.slot b o e n hb (by simp)) (λb o _ e n=>u.free b o e n (by simp)) (λb o _ e=>u.there b o e (by simp)) u.nR u.lJ u.nU (λm' hm=>by
  obtain⟨o',CT,Ho,nI,r'⟩:=hm;rw[ho]at nI;cases nI;exact⟨_,CT,Ho,hL,r'⟩) bx I.bare
variable {s:Shared} in
theorem Inv.call{g':Array GenState}{d':Drawn}(I:Inv X pins σ H s)(u:Un (lx X.stack) ch H H' s.heap h')(bx:ij X.prog X.w H' h')(hg:AllBare g')(pX:∀b∈ch,(b∈X.ex\/X.aL.heap.objs.size<=b)/\b≠X.env.locals/\(∀x c,X.env.cells.lookup x=some c->c≠b)/\∀p∈X.pn++pins,p.1≠b):
  Inv X pins σ H' {s with heap:=h',gens:=g',drawn:=d',toks:=t'}:=by
 obtain⟨m,⟨o,es,ep,ho,r⟩,_⟩:=id I.loc;obtain⟨sl,hL⟩:=u.any ho I.free λz=>(pX _ z).2.1 rfl;exact I.step (ch:=ch) pX (λb o hL hb hc e n=>u.keep b o e n (λz=>(mem_cons.mp (I.uj b z)).elim hL hb) hc) (λb o _ _ hc e n=>u.any e n hc) (λb o hc e n=>u.free b o e n hc) (λb o hc e=>u.there b o e hc) u.nR u.lJ u.nU (λm' hm=>by
  obtain⟨o',CT,Ho,nI,r'⟩:=hm;rw[ho]at nI;cases nI;exact⟨_,CT,Ho,hL,r'⟩) bx hg
variable {s:Shared} in
theorem Inv.turned{it:Addr}(I:Inv X pins σ H s)(k:∀b o,b≠it->s.heap.get? b=some o->h'.get? b=some o)(hn:H it=none)(hL:it≠X.env.locals)(h1:it∈X.ex\/X.aL.heap.objs.size<=it)(h2:∀x c,X.env.cells.lookup x=some c->c≠it)(h3:∀p∈X.pn++pins,p.1≠it):Inv X pins σ H {s with heap:=h',toks:=t'}:=by
 have Te:∀b u,H b=some u->b≠it:=λb u e z=>by rw[z,hn]at e;cases e
 refine I.step (g':=s.gens) (d':=s.drawn) (ch:=[it]) (λb hb=>?_) (λb o _ _ hc e _=>k b o (λz=>hc (by simp[z])) e) (λb o _ _ hc e _=>⟨o.slots,k b o (λz=>hc (by simp[z])) e⟩) (λ_ _ _ _ n=>n)
  (λb o hc e=>⟨o,k b o (λz=>hc (by simp[z])) e⟩) (λ_ _ e=>e) (λ_ _ _ e=>e) (λb ps e=>⟨#[],by rw[e];simp⟩) (λm hm=>?_) (λb u e=>?_) I.bare
 ·have e:b=it:=by simpa using hb
  subst e;exact⟨h1,hL,h2,h3⟩
 ·obtain⟨o,es,ep,ho,r⟩:=hm;exact⟨o,es,ep,k _ o (Ne.symm hL) ho,r⟩
 ·refine(I.bx b u e).nV (λc v hc q=>k c v ?_ q) (λ_ q=>q) λ_ _ q=>q;rcases hc with z|z
  ·rw[z];exact Te b u e
  ·exact Te c _ z
variable {s:Shared} in
theorem Inv.tok(I:Inv X pins σ H s)(t:Nat):Inv X pins σ H {s with toks:=t}:=I.un (h':=s.heap) (t':=t) Un.refl I.bx
variable {s:Shared} in
theorem Inv.kept(I:Inv X pins σ H s)(k:∀b u,s.heap.get? b=some u->h'.get? b=some u):Inv X pins σ H {s with heap:=h',toks:=t'}:=I.un (Un.kept k) (I.bx.kept k)
variable {s:Shared} in
theorem Inv.laid{o:HO}(I:Inv X pins σ H s)(k:∀b u,s.heap.get? b=some u->h'.get? b=some u)(hp:s.heap.objs.size<=a)(new:gE X.prog X.w (upd H a o) h' a o):
  Inv X pins σ (upd H a o) {s with heap:=h',toks:=t'}:=I.un (Un.laid k hp (I.bx.fresh hp)) (I.bx.laid k hp new)
variable {s:Shared} in
theorem Inv.write{o:HO}(I:Inv X pins σ H s)(mu:LS (H x))(he:e=x\/H e=some (.own x))(k:∀b u,b≠e->s.heap.get? b=some u->h'.get? b=some u)(Cy:∃u,h'.get? e=some u)(new:gE X.prog X.w (upd H x o) h' x o):Inv X pins σ (upd H x o) {s with heap:=h',toks:=t'}:=I.un (Un.write mu he k Cy) (I.bx.write mu he k Cy new)
variable {s:Shared} in
theorem Inv.weak{bH:List (Option V)}(I:Inv X pins σ H s)(hl:bH.length=σ.length)(w:∀(i:Nat) v,bH[i]?=some (some v)->σ[i]?=some (some v)):Inv X pins bH H s:=
 ⟨I.ok,I.os,I.bare,I.base,let ⟨m,hn,jw⟩:=I.loc;⟨m,hn,λi x v e1 e2 e3=>jw i x v e1 (w i v e2) e3⟩,I.cell,I.free,I.jB,I.pin,I.bx,hl.trans I.len⟩
variable {s:Shared} in
theorem Inv.jV{pins':List (Addr×Obj)}(I:Inv X pins σ H s)(h:∀p∈pins',s.heap.get? p.1=some p.2/\H p.1=none/\p.1≠X.env.locals/\p.1∉X.fs/\∀v,p.2.data≠.cell v):Inv X pins' σ H s:=
 ⟨I.ok,I.os,I.bare,I.base,I.loc,I.cell,I.free,I.jB,λp hp=>(mem_append.mp hp).elim (λz=>I.pin p (mem_append_left _ z)) (h p),I.bx,I.len⟩
variable {N:List Str} {i:Nat} {x:Str}
theorem zA(hN:N.Nodup){j:Nat}(a:N[i]?=some x)(b:N[j]?=some x):i=j:=by
 obtain⟨h1,e1⟩:=List.getElem?_eq_some_iff.mp a;obtain⟨h2,e2⟩:=List.getElem?_eq_some_iff.mp b;exact(List.getElem_inj hN).mp (e1.trans e2.symm)
variable {M:Model} {A:Around} {E:Value->Shared->Prop} {v:V} {u:Value}
variable {s:Shared} in
theorem wZ{Q:Unit->Shared->Prop}(I:Inv X pins σ H s)(hN:X.N.Nodup)(hi:X.N[i]?=some x)(hx:Loc X.env.scope x)(r:RelV v u)(h:∀s',Inv X pins (σ.set i (some v)) H s'->(∃a,SameBut a s.heap s'.heap/\(a=X.env.locals\/X.env.cells.lookup x=some a))->Q () s')(hf:X.fn x=true\/X.env.scope.names.lookup x=some .local:=by first|exact .inl rfl|exact .inr rfl|assumption):wpAny M A (storeName X.env x u) Q E s:=by
 obtain⟨m,hn,hl⟩:=id I.loc;have W0:(X.env.scope.kind == .class || (X.env.scope.kind == .module&&X.env.locals !=X.env.globals))=false:=by rw[I.ok.kind];rfl
 have PX:i<σ.length:=by rw[I.len];exact(List.getElem?_eq_some_iff.mp hi).1
 have AF:=I.AF;have tracked:∀{a:Addr} {h':Heap},(∃o,s.heap.get? a=some o/\H a=none)->SameBut a s.heap h'->ij X.prog X.w H h':=fun{a h'} ha hs b ob e=>by
  obtain⟨_,_,Lf⟩:=ha;refine(I.bx b ob e).nV (λc w' hc q=>(hs.2 c ?_).trans q) (λ_ q=>q) λ_ _ q=>q;rintro rfl;rcases hc with rfl|hc
  ·rw[Lf]at e;cases e
  ·rw[Lf]at hc;cases hc
 rcases hx with hk|hk
 ·refine wpAny_storeName_local hk hn (λh' lS hs=>?_) W0;obtain⟨oL,_,_,Cw,_⟩:=id hn;refine h _ ⟨I.ok,I.os,I.bare,⟨λb o e n hb hx=>?_,λb o e n hb hx=>?_,I.base.free,λb o e hx=>?_,I.base.nR,I.base.lJ,I.base.nU⟩,⟨_,lS,λj y v' e1 e2 e3=>?_⟩,λy c e=>?_,I.free,I.jB,λp hp=>?_,tracked ⟨oL,Cw,I.free⟩ hs,by simpa using I.len⟩ ⟨_,hs,.inl rfl⟩
  ·exact(hs.2 b (ne_of_lt (lt_of_lt_of_le (lt_size e) I.ok.above))).trans (I.base.keep b o e n hb hx)
  ·obtain⟨sl,e1⟩:=I.base.slot b o e n hb hx;exact⟨sl,(hs.2 b (ne_of_lt (lt_of_lt_of_le (lt_size e) I.ok.above))).trans e1⟩
  ·obtain⟨o',e1⟩:=I.base.there b o e hx;exact⟨o',(hs.2 b (ne_of_lt (lt_of_lt_of_le (lt_size e) I.ok.above))).trans e1⟩
  ·by_cases hj:j=i
   ·subst hj;rw[hi]at e1;cases e1;rw[getElem?_set_self PX]at e2;cases e2;exact⟨u,r,.inl ⟨hk,by simp⟩⟩
   ·rw[getElem?_set_ne (Ne.symm hj)]at e2;obtain⟨u',r',q⟩:=hl j y v' e1 e2 e3;refine⟨u',r',?_⟩;rcases q with⟨k,e⟩|⟨k,c,e,z⟩
    ·refine .inl ⟨k,?_⟩;have:y≠x:=λe=>hj (zA hN e1 (e▸hi));simp[this,e]
    ·exact .inr ⟨k,c,e,z.sameBut hs (AF y c e)⟩
  ·obtain⟨w',z⟩:=I.cell y c e;exact⟨w',z.sameBut hs (AF y c e)⟩
  ·obtain⟨e,n,ne,nf,d⟩:=I.pin p hp;exact⟨(hs.2 p.1 ne).trans e,n,ne,nf,d⟩
 ·have uZ:X.fn x=true:=by
   rcases hf with z|z
   ·exact z
   ·rw[z]at hk;cases hk
  obtain⟨c,hc⟩:=I.ok.has x (.inl hk);obtain⟨w',z⟩:=I.cell x c hc;refine wpAny_storeName_cell I.ok.kind hk hc z (λh' iK hs=>?_);obtain⟨oc,TF,VT⟩:=id z;refine h {s with heap:=h'} ⟨I.ok,I.os,I.bare,⟨λb o e n hb hx=>?_,λb o e n hb hx=>?_,I.base.free,λb o e hx=>?_,I.base.nR,I.base.lJ,I.base.nU⟩,⟨m,hn.sameBut hs (Ne.symm (AF x c hc)),λj y v' e1 e2 e3=>?_⟩,λy c' e=>?_,I.free,I.jB,λp hp=>?_,tracked ⟨oc,TF,I.jB x c hc⟩ hs,by simpa using I.len⟩ ⟨c,hs,.inr hc⟩
  ·exact(hs.2 b (ne_of_lt (lt_of_lt_of_le (lt_size e) (I.ok.HU x c uZ hc)))).trans (I.base.keep b o e n hb hx)
  ·obtain⟨sl,e1⟩:=I.base.slot b o e n hb hx;exact⟨sl,(hs.2 b (ne_of_lt (lt_of_lt_of_le (lt_size e) (I.ok.HU x c uZ hc)))).trans e1⟩
  ·obtain⟨o',e1⟩:=I.base.there b o e hx;exact⟨o',(hs.2 b (ne_of_lt (lt_of_lt_of_le (lt_size e) (I.ok.HU x c uZ hc)))).trans e1⟩
  ·by_cases hj:j=i
   ·subst hj;rw[hi]at e1;cases e1;rw[getElem?_set_self PX]at e2;cases e2;exact⟨u,r,.inr ⟨.inl hk,c,hc,iK⟩⟩
   ·rw[getElem?_set_ne (Ne.symm hj)]at e2;obtain⟨u',r',q⟩:=hl j y v' e1 e2 e3;refine⟨u',r',?_⟩;rcases q with q|⟨k,c',e,z'⟩
    ·exact .inl q
    ·refine .inr ⟨k,c',e,z'.sameBut hs ?_⟩;rintro rfl;exact hj (zA hN e1 (I.ok.inj _ _ _ e hc▸hi))
  ·by_cases GY:c'=c
   ·subst GY;exact⟨_,iK⟩
   ·obtain⟨w2,z2⟩:=I.cell y c' e;exact⟨w2,z2.sameBut hs GY⟩
  ·obtain⟨e,n,ne,nf,d⟩:=I.pin p hp;refine⟨(hs.2 p.1 ?_).trans e,n,ne,nf,d⟩;intro q;rw[q,TF]at e;have q':oc=p.2:=Option.some.inj e;exact d w' (by rw[<- q'];exact VT)
variable {s:Shared} in
theorem oU{Q:Unit->Shared->Prop}(I:Inv X pins σ H s)(hN:X.N.Nodup)(hi:X.N[i]?=some x)(hx:Loc X.env.scope x)(r:RelV v u)(h:∀s',Inv X pins (σ.set i (some v)) H s'->Q () s')(hf:X.fn x=true\/X.env.scope.names.lookup x=some .local:=by first|exact .inl rfl|exact .inr rfl|assumption):wpAny M A (storeName X.env x u) Q E s:=
 wZ I hN hi hx r (λs' I' _=>h s' I') hf
variable {s':Shared}
variable {s:Shared} in
theorem Inv.LH(I:Inv X pins σ H s)(ho:s'.os=s.os)(u:Un (lx X.stack) ch H H' s.heap s'.heap)(bx:ij X.prog X.w H' s'.heap)(hg:AllBare s'.gens)(pX:∀b∈ch,(b∈X.ex\/X.aL.heap.objs.size<=b)/\b≠X.env.locals/\(∀x c,X.env.cells.lookup x=some c->c≠b)/\∀p∈X.pn++pins,p.1≠b):Inv X pins σ H' s':=by
 obtain⟨h',g',d',t',o'⟩:=s';have e:o'=s.os:=ho;subst e;exact I.call (g':=g') (t':=t') (d':=d') u bx hg pX
abbrev XK:=Value->Option Addr->Hp->Prop
abbrev St:=List (Option V)
abbrev VK:=V->Hp->Prop
abbrev TE:=St->Hp->VK->Prop
abbrev TT:=St->Hp->(Bool->Hp->Prop)->Prop
abbrev TA:=St->Hp->(List V->Hp->Prop)->Prop
structure Ends where
 nx:St->Hp->Prop
 rt:VK
 bk:St->Hp->Prop:=λ_ _=>False
 ct:St->Hp->Prop:=λ_ _=>False
abbrev TS:=Ends->St->Hp->Prop
def EP (X:Cx) (pins:List (Addr×Obj)) (σ:St) (Q:VK) (u:Value) (s':Shared):Prop:=∃v H',Inv X pins σ H' s'/\RelV v u/\Q v H'
def TP (X:Cx) (pins:List (Addr×Obj)) (σ:St) (Q:Bool->Hp->Prop) (b:Bool) (s':Shared):Prop:=∃H',Inv X pins σ H' s'/\Q b H'
def AP (X:Cx) (pins:List (Addr×Obj)) (σ:St) (Q:List V->Hp->Prop) (us:List Value) (s':Shared):Prop:=∃vs H',Inv X pins σ H' s'/\Vals vs us/\Q vs H'
def SP (X:Cx) (pins:List (Addr×Obj)) (D:Ends) (f:Flow) (s':Shared):Prop:=
 match f with
 | .next=>∃bH H',Inv X pins bH H' s'/\D.nx bH H'
 | .brk=>∃bH H',Inv X pins bH H' s'/\D.bk bH H'
 | .cont=>∃bH H',Inv X pins bH H' s'/\D.ct bH H'
 | .ret u=>∃v bH H',Inv X pins bH H' s'/\RelV v u/\D.rt v H'
def PE (X:Cx) (e:Expr) (t:TE):Prop:=
 ∀(pins:List (Addr×Obj)) (s:Shared) (σ:St) (H:Hp) (Q:VK),Inv X pins σ H s->t σ H Q->wpAny (model X.prog X.w) X.A (eval e X.env) (EP X pins σ Q) X.xe s
def PT (X:Cx) (e:Expr) (t:TT):Prop:=
 ∀(pins:List (Addr×Obj)) (s:Shared) (σ:St) (H:Hp) (Q:Bool->Hp->Prop),Inv X pins σ H s->t σ H Q->wpAny (model X.prog X.w) X.A (isTrue e X.env (eval e X.env)) (TP X pins σ Q) X.xe s
def PW (X:Cx) (e:Expr) (t:TT):Prop:=
 ∀(whole:Sem Value) (pins:List (Addr×Obj)) (s:Shared) (σ:St) (H:Hp) (Q:Bool->Hp->Prop),Inv X pins σ H s->t σ H Q->wpAny (model X.prog X.w) X.A (isTrue e X.env whole) (TP X pins σ Q) X.xe s
variable {e:Expr}
theorem PW.pt{t:TT}(h:PW X e t):PT X e t:=h _
def PA (X:Cx) (es:List Expr) (t:TA):Prop:=
 ∀(pos:Pos) (pins:List (Addr×Obj)) (s:Shared) (σ:St) (H:Hp) (Q:List V->Hp->Prop),Inv X pins σ H s->t σ H Q->wpAny (model X.prog X.w) X.A (spliced (backTo pos (starEach es X.env))) (AP X pins σ Q) X.xe s
def PS (X:Cx) (st:Stmt) (t:TS):Prop:=
 ∀(pins:List (Addr×Obj)) (s:Shared) (σ:St) (H:Hp) (D:Ends),Inv X pins σ H s->t D σ H->wpAny (model X.prog X.w) X.A (exec st X.env) (SP X pins D) X.xe s
def lH (X:Cx) (st:List Stmt) (t:TS):Prop:=
 ∀(pins:List (Addr×Obj)) (s:Shared) (σ:St) (H:Hp) (D:Ends),Inv X pins σ H s->t D σ H->wpAny (model X.prog X.w) X.A (execs st X.env) (SP X pins D) X.xe s
variable {α:Type}
theorem cq{t:Sem α}{Q Q':α->Shared->Prop}{s:Shared}(h:wpAny M A t Q E s)(hQ:∀a s,Q a s->Q' a s):wpAny M A t Q' E s:=wpAny_mono h hQ λ_ _ x=>x
open PySem PySem.Spec PyProof.Rows
def Vk (i:Nat):TE:=λσ H Q=>∃v,σ[i]?=some (some v)/\Q v H
def tC (v:V):TE:=λ_ H Q=>Q v H
variable {pos:Pos}
theorem mJ(hN:X.N[i]?=some x)(hv:n8 X.env.scope x)(hd:(x==("__debug__" : Str))=false:=by decide)(gB:(x==("__classdict__" : Str))=false:=by decide):PE X (.Name x pos) (Vk i):=by
 intro pins s σ H Q I h;obtain⟨v,e,h⟩:=h;obtain⟨m,hn,hl⟩:=I.loc;obtain⟨u,r,l⟩:=hl i x v hN e hv;have fin:EP X pins σ Q u s:=⟨v,H,I,r,h⟩;rcases l with⟨hk,hm⟩|⟨hk,c,hc,Lj⟩
 ·exact wpAny_Name (wpAny_loadName_local I.ok.kind hk hn hm fin) hd
 ·rcases hk with hk|hk
  ·exact wpAny_Name (wpAny_loadName_cell I.ok.kind hk hc Lj fin) hd
  ·exact wpAny_Name (wpAny_loadName_free I.ok.kind hk hc Lj fin gB) hd
theorem G6{i j pos}:PE X (.Constant (.int i) j pos) (tC (.int i)):=λ_ _ _ H _ I h=>wpAny_Constant_int ⟨.int i,H,I.tok _,⟨_,rfl⟩,h⟩
theorem S9{b j pos}:PE X (.Constant (.bool b) j pos) (tC (.bl b)):=λ_ _ _ H _ I h=>Constant_bool ⟨.bl b,H,I,rfl,h⟩
theorem OL{j pos}:PE X (.Constant .none j pos) (tC .bO):=λ_ _ _ H _ I h=>Constant_none ⟨.bO,H,I,rfl,h⟩
theorem OI{x j pos}:PE X (.Constant (.str x) j pos) (tC (.str x)):=λ_ _ _ H _ I h=>Calls.Constant_str ⟨.str x,H,I.tok _,⟨_,rfl⟩,h⟩
def Gl (X:Cx) (x:Str):Prop:=X.env.kindOf x=some .globalImplicit
theorem Cs{s:Shared}{σ:St}{Q:Value->Shared->Prop}(I:Inv X pins σ H s)(hg:Gl X x)(hm:X.mg x=some u)(h:Q u s)(hd:(x==("__debug__" : Str))=false:=by decide):wpAny (model X.prog X.w) X.A (eval (.Name x pos) X.env) Q E s:=
 Calls.Name_function_global I.ok.kind hg (Calls.loadGlobal_global (by rw[I.ok.glob];exact I.mod.glob.keeps I.bk) hm h) hd
theorem mN{s:Shared}{σ:St}{Q:Value->Shared->Prop}(I:Inv X pins σ H s)(hg:Gl X x)(hm:X.mg x=none)(hv:bootBuiltins x=some u)(h:Q u s)(hn:x≠"__name__":=by decide)(hd:(x==("__debug__" : Str))=false:=by decide):wpAny (model X.prog X.w) X.A (eval (.Name x pos) X.env) Q E s:=by
 obtain⟨mb,h1,h2⟩:=I.mod.blt;exact Calls.Name_function_global I.ok.kind hg (Calls.loadGlobal_builtin (by rw[I.ok.glob];exact I.mod.glob.keeps I.bk) hm (by rw[I.ok.blt];exact h1.keeps I.bk) ((h2 x hn).trans hv) h) hd
theorem ME(hg:Gl X x)(hm:X.mg x=some u)(r:RelV v u)(hd:(x==("__debug__" : Str))=false:=by decide):PE X (.Name x pos) (tC v):=
 λ_ _ _ H _ I h=>Cs I hg hm ⟨v,H,I,r,h⟩ hd
theorem MG(hg:Gl X x)(hm:X.mg x=none)(hv:bootBuiltins x=some u)(r:RelV v u)(hn:x≠"__name__":=by decide)(hd:(x==("__debug__" : Str))=false:=by decide):PE X (.Name x pos) (tC v):=
 λ_ _ _ H _ I h=>mN I hg hm hv ⟨v,H,I,r,h⟩ hn hd
def Vv (t u:TT):TT:=λσ H Q=>t σ H λc H1=>if c=true then u σ H1 Q else Q false H1
def WB (t u:TT):TT:=λσ H Q=>t σ H λc H1=>if c=true then Q true H1 else u σ H1 Q
def Vq (t:TT):TT:=λσ H Q=>t σ H λc H1=>Q (!c) H1
variable {a:Expr} {tA:TT}
theorem Mp(ha:PT X a tA):PW X (.BoolOp .And [a] pos) tA:=by
 intro wh pins s σ H Q I h;refine isTrue_and (cq (ha pins s σ H Q I h) λc s1 e=>?_);cases c with
 |true=>exact isTrue_and_nil e
 |false=>exact e
theorem OA(ha:PT X a tA):PW X (.BoolOp .Or [a] pos) tA:=by
 intro wh pins s σ H Q I h;refine isTrue_or (cq (ha pins s σ H Q I h) λc s1 e=>?_);cases c with
 |false=>exact isTrue_or_nil e
 |true=>exact e
variable {Kr:TT} {b:Expr}
variable {rest:List Expr} in
theorem OB(ha:PT X a tA)(hb:PW X (.BoolOp .And (b::rest) pos) Kr):PW X (.BoolOp .And (a::b::rest) pos) (Vv tA Kr):=by
 intro wh pins s σ H Q I h;refine isTrue_and (cq (ha pins s σ H _ I h) λc s1 ⟨H1,I1,q1⟩=>?_);cases c with
 |true=>exact hb wh pins s1 σ H1 Q I1 q1
 |false=>exact⟨H1,I1,q1⟩
variable {rest:List Expr} in
theorem S2(ha:PT X a tA)(hb:PW X (.BoolOp .Or (b::rest) pos) Kr):PW X (.BoolOp .Or (a::b::rest) pos) (WB tA Kr):=by
 intro wh pins s σ H Q I h;refine isTrue_or (cq (ha pins s σ H _ I h) λc s1 ⟨H1,I1,q1⟩=>?_);cases c with
 |true=>exact⟨H1,I1,q1⟩
 |false=>exact hb wh pins s1 σ H1 Q I1 q1
theorem OC(ha:PT X a tA):PT X (.UnaryOp .Not a pos) (Vq tA):=by
 intro pins s σ H Q I h;exact isTrue_not (ha pins s σ H (λc H1=>Q (!c) H1) I h)
variable {tb ta:TE}
def RV (ta tb:TE):TE:=λσ H Q=>ta σ H λx H1=>∃c,x=.bl c/\if c=true then tb σ H1 Q else Q (.bl false) H1
def Vp (ta tb:TE):TE:=λσ H Q=>ta σ H λx H1=>∃c,x=.bl c/\if c=true then Q (.bl true) H1 else tb σ H1 Q
def RP (ta:TE):TE:=λσ H Q=>ta σ H λx H1=>∃c,x=.bl c/\Q (.bl (!c)) H1
theorem OJ{op}{t:TE}(h:PE X a t):PE X (.BoolOp op [a] pos) t:=λpins s σ H Q I hw=>BoolOp_one (h pins s σ H Q I hw)
variable {rest:List Expr} in
theorem OM(ha:PE X a ta)(hb:PE X (.BoolOp .And (b::rest) pos) tb):PE X (.BoolOp .And (a::b::rest) pos) (RV ta tb):=by
 intro pins s σ H Q I h;refine BoolOp_and (cq (ha pins s σ H _ I h) λv s1 ⟨x,H1,I1,r1,q1⟩=>?_);obtain⟨c,rfl,q1⟩:=q1;cases r1;refine wpAny_truthy_bool ?_;cases c with
 |true=>exact hb pins s1 σ H1 Q I1 q1
 |false=>exact⟨.bl false,H1,I1,rfl,q1⟩
variable {rest:List Expr} in
theorem S7(ha:PE X a ta)(hb:PE X (.BoolOp .Or (b::rest) pos) tb):PE X (.BoolOp .Or (a::b::rest) pos) (Vp ta tb):=by
 intro pins s σ H Q I h;refine BoolOp_or (cq (ha pins s σ H _ I h) λv s1 ⟨x,H1,I1,r1,q1⟩=>?_);obtain⟨c,rfl,q1⟩:=q1;cases r1;refine wpAny_truthy_bool ?_;cases c with
 |false=>exact hb pins s1 σ H1 Q I1 q1
 |true=>exact⟨.bl true,H1,I1,rfl,q1⟩
theorem OK(ha:PE X a ta):PE X (.UnaryOp .Not a pos) (RP ta):=by
 intro pins s σ H Q I h;refine UnaryOp_ (cq (ha pins s σ H _ I h) λv s1 ⟨x,H1,I1,r1,q1⟩=>?_);obtain⟨c,rfl,q1⟩:=q1;cases r1;exact not_of (wpAny_truthy_bool ⟨.bl (!c),H1,I1,rfl,q1⟩)
def WC (t:TT) (ta tb:TE):TE:=λσ H Q=>t σ H λc H1=>if c=true then ta σ H1 Q else tb σ H1 Q
variable {c:Expr}
theorem J2(hc:PT X c tA)(ha:PE X a ta)(hb:PE X b tb):PE X (.IfExp c a b pos) (WC tA ta tb):=by
 intro pins s σ H Q I h;refine wpAny_IfExp (cq (hc pins s σ H _ I h) λd s1 ⟨H1,I1,q1⟩=>?_);cases d with
 |true=>exact ha pins s1 σ H1 Q I1 q1
 |false=>exact hb pins s1 σ H1 Q I1 q1
open PySem PySem.Spec PyProof.Rows
def fK (K:Frag) (H:Hp) (a:Addr) (xs:List V):Prop:=
 Rd H a (.lst xs)\/
  ∃(o:Obj) (ak:Array Value) (n:Nat),K.lookup a=some o/\o.cls=.type "list"/\o.dict=none/\o.data=.seq ak n/\ak.size<=sizeLine/\Vals xs ak.toList
def iN (K:Frag) (H:Hp) (a:Addr) (xs:List V):Prop:=
 Rd H a (.tup xs)\/
  ∃(o:Obj) (ak:Array Value) (n:Nat),K.lookup a=some o/\o.cls=.type "tuple"/\o.data=.seq ak n/\ak.size<=sizeLine/\Vals xs ak.toList
def Wl:Value->Option V
 | .none=>some .bO
 | .bool b=>some (.bl b)
 | .int i _=>some (.int i)
 | .str x _=>some (.str x)
 | .bytes b _=>some (.mZ b)
 | .float b _=>some (.Qb b)
 | .ref a=>some (.ref a)
 | .type n=>some (.ty n)
 |_=>none
theorem RelV.abs{x:V}(r:RelV x u):Wl u=some x:=by
 cases x with
 |bO=>cases r;rfl
 |bl _=>cases r;rfl
 |int _=>obtain⟨t,rfl⟩:=r;rfl
 |str _=>obtain⟨t,rfl⟩:=r;rfl
 |mZ _=>obtain⟨t,rfl⟩:=r;rfl
 |Qb _=>obtain⟨t,rfl⟩:=r;rfl
 |ref _=>cases r;rfl
 |ty _=>cases r;rfl
theorem RelV.inj{x y:V}(r:RelV x u)(q:RelV y u):x=y:=Option.some.inj (r.abs.symm.trans q.abs)
theorem Vals.inj:∀{xs ys:List V} {us:List Value},Vals xs us->Vals ys us->xs=ys
 |_,_,_,.nil,.nil=>rfl
 |_,_,_,.cons r t,.cons r' t'=>by rw[r.inj r',Vals.inj t t']
variable {a:Addr} {K:Frag}
theorem fK.of(h:H a=some (.lst xs)):fK K H a xs:=.inl (.inl h)
variable {σ:St}
variable {s:Shared} in
theorem Inv.list(I:Inv X pins σ H s)(h:fK X.K H a xs):∃ak:List Value,Vals xs ak/\PlainL s.heap a ak.toArray/\xs.length<=sizeLine:=by
 rcases h with h|⟨o,ak,n,hk,hc,hd,hs,hz,r⟩
 ·obtain⟨z,ak,n,r,e⟩:=h.ok I.bx;exact⟨ak,r,⟨_,n,e,rfl,rfl,rfl⟩,z⟩
 ·refine⟨ak.toList,r,⟨o,n,I.pT a o hk,hc,hd,by simpa using hs⟩,?_⟩;have e:=r.length;simp only[length_toList]at e;omega
variable {s:Shared} in
theorem Inv.tuple(I:Inv X pins σ H s)(h:iN X.K H a xs):∃ak:List Value,Vals xs ak/\IsTup s.heap a ak.toArray/\xs.length<=sizeLine:=by
 rcases h with h|⟨o,ak,n,hk,hc,hs,hz,r⟩
 ·obtain⟨z,ak,r,p⟩:=h.ok I.bx;exact⟨ak,r,p,z⟩
 ·refine⟨ak.toList,r,⟨o,I.pT a o hk,hc,n,by simpa using hs⟩,?_⟩;have e:=r.length;simp only[length_toList]at e;omega
variable {ys:List V}
variable {s:Shared} in
theorem Inv.tI(I:Inv X pins σ H s)(h:fK X.K H a xs)(h':fK X.K H a ys):xs=ys:=by
 obtain⟨ak,r,⟨o,n,e,_,_,d⟩,_⟩:=I.list h;obtain⟨its',r',⟨o',n',e',_,_,d'⟩,_⟩:=I.list h';rw[e]at e';cases e';rw[d]at d';injection d' with d1 _;have:ak=its':=by simpa using congrArg toList d1
 subst this;exact r.inj r'
variable {s:Shared} in
theorem Inv.wX(I:Inv X pins σ H s)(h:iN X.K H a xs)(h':iN X.K H a ys):xs=ys:=by
 obtain⟨ak,r,⟨o,e,_,n,d⟩,_⟩:=I.tuple h;obtain⟨its',r',⟨o',e',_,n',d'⟩,_⟩:=I.tuple h';rw[e]at e';cases e';rw[d]at d';injection d' with d1 _;have:ak=its':=by simpa using congrArg toList d1
 subst this;exact r.inj r'
abbrev Cx.nQ (X:Cx) (E:Value->Shared->Prop):Cx:={X with xe:=E}
abbrev Cx.oB (X:Cx):Cx:=X.nQ λ_ _=>False
theorem Cx.Ok.nQ(ok:X.Ok)(E:Value->Shared->Prop):(X.nQ E).Ok:=
 ⟨ok.mod,ok.kind,ok.glob,ok.blt,ok.above,ok.inj,ok.has,ok.HU,ok.hd,ok.frames,ok.Kt,ok.CS,ok.bs,ok.xU,ok.vU,ok.wg,ok.mV,ok.CK⟩
theorem Cx.Ok.lr(ok:(X.nQ E).Ok):X.Ok:=
 ⟨ok.mod,ok.kind,ok.glob,ok.blt,ok.above,ok.inj,ok.has,ok.HU,ok.hd,ok.frames,ok.Kt,ok.CS,ok.bs,ok.xU,ok.vU,ok.wg,ok.mV,ok.CK⟩
variable {s:Shared} in
theorem Inv.nQ(I:Inv X pins σ H s)(E:Value->Shared->Prop):Inv (X.nQ E) pins σ H s:=⟨I.ok.nQ E,I.os,I.bare,I.base,I.loc,I.cell,I.free,I.jB,I.pin,I.bx,I.len⟩
variable {s:Shared} in
theorem Inv.lr(I:Inv (X.nQ E) pins σ H s):Inv X pins σ H s:=⟨I.ok.lr,I.os,I.bare,I.base,I.loc,I.cell,I.free,I.jB,I.pin,I.bx,I.len⟩
variable {D:Ends}
theorem SP.lr{f:Flow}(h:SP (X.nQ E) pins D f s'):SP X pins D f s':=by
 cases f with
 |next=>obtain⟨bH,H',I,q⟩:=h;exact⟨bH,H',I.lr,q⟩
 |brk=>obtain⟨bH,H',I,q⟩:=h;exact⟨bH,H',I.lr,q⟩
 |cont=>obtain⟨bH,H',I,q⟩:=h;exact⟨bH,H',I.lr,q⟩
 |ret u=>obtain⟨v,bH,H',I,r,q⟩:=h;exact⟨v,bH,H',I.lr,r,q⟩
variable {t:TS}
theorem lH.oB{st:List Stmt}(h:lH X.oB st t):lH X st t:=λpins s σ H D I hw=>
 wpAny_mono (h pins s σ H D (I.nQ _) hw) (λ_ _ q=>q.lr) λ_ _ z=>False.elim z
def RQ:TS:=λD σ H=>D.nx σ H
variable {u:TS}
def Vm (t u:TS):TS:=λD σ H=>t {D with nx:=u D} σ H
theorem Ms:lH X [] RQ:=λ_ _ σ H _ I h=>wpAny_execs_nil ⟨σ,H,I,h⟩
variable {st:Stmt}
variable {rest:List Stmt} in
theorem IT(h1:PS X st t)(h2:lH X rest u):lH X (st::rest) (Vm t u):=by
 intro pins s σ H D I h;refine wpAny_execs_cons (cq (h1 pins s σ H {D with nx:=u D} I h) λf s1 q=>?_);cases f with
 |next=>
  obtain⟨bH,H',I',q⟩:=q;exact h2 pins s1 bH H' D I' q
 |ret v=>exact q
 |brk=>exact q
 |cont=>exact q
theorem C8(h1:PS X st t):lH X [st] t:=by
 intro pins s σ H D I h;refine wpAny_execs_cons (cq (h1 pins s σ H D I h) λf s1 q=>?_);cases f with
 |next=>exact wpAny_execs_nil q
 |ret v=>exact q
 |brk=>exact q
 |cont=>exact q
theorem Inv.quiet{σ:St}{s:Shared}(I:Inv X pins σ H s):interactive X.env=false:=by simp[interactive,I.ok.kind]
variable {te:TE}
def RT (te:TE):TS:=λD σ H=>te σ H λ_ H1=>D.nx σ H1
theorem Mt(he:PE X e te)(hs:swapsWith e none pos.line X.env=pure false:=by rfl):PS X (.Expr e pos) (RT te):=by
 intro pins s σ H D I h;exact wpAny_Expr_any (cq (he pins s σ H _ I h) λv s1 ⟨x,H1,I1,r1,q1⟩=>⟨σ,H1,I1,q1⟩) I.quiet hs
def Vn (te:TE):TS:=λD σ H=>te σ H D.rt
theorem uH(he:PE X e te):PS X (.Return (some e) pos) (Vn te):=by
 intro pins s σ H D I h;exact wpAny_Return_some (cq (he pins s σ H _ I h) λv s1 ⟨x,H1,I1,r1,q1⟩=>⟨x,σ,H1,I1,r1,q1⟩)
def Vt (c:TT) (t u:TS):TS:=λD σ H=>c σ H λb H1=>if b=true then t D σ H1 else u D σ H1
theorem KD{a b:List Stmt}{tc:TT}(hc:PT X c tc)(ha:lH X a t)(hb:lH X b u):PS X (.If c a b pos) (Vt tc t u):=by
 intro pins s σ H D I h;refine wpAny_If (cq (hc pins s σ H _ I h) λd s1 ⟨H1,I1,q1⟩=>?_);cases d with
 |true=>exact ha pins s1 σ H1 D I1 q1
 |false=>exact hb pins s1 σ H1 D I1 q1
abbrev TG:=V->St->Hp->(St->Hp->Prop)->Prop
abbrev sV:=List V->St->Hp->(St->Hp->Prop)->Prop
def PG (X:Cx) (target:Expr) (t:TG):Prop:=
 ∀(pins:List (Addr×Obj)) (s:Shared) (σ:St) (H:Hp) (v:V) (u:Value) (Q:St->Hp->Prop),Inv X pins σ H s->RelV v u->t v σ H Q->
  wpAny (model X.prog X.w) X.A (assign target X.env u) (λ_ s'=>∃bH H',Inv X pins bH H' s'/\Q bH H') X.xe s
def AX (X:Cx) (ts:List Expr) (t:sV):Prop:=
 ∀(pins:List (Addr×Obj)) (s:Shared) (σ:St) (H:Hp) (vs:List V) (us:List Value) (Q:St->Hp->Prop),Inv X pins σ H s->Vals vs us->t vs σ H Q->
  wpAny (model X.prog X.w) X.A (assignInOrder ((assignEach ts X.env).map (·.2)) us) (λ_ s'=>∃bH H',Inv X pins bH H' s'/\Q bH H') X.xe s
abbrev ED:=V->V->V->Hp->(Hp->Prop)->Prop
def K4 (X:Cx) (t:ED):Prop:=
 ∀(pins:List (Addr×Obj)) (s:Shared) (σ:St) (H:Hp) (o i v:V) (ov iv u:Value) (Q:Hp->Prop),Inv X pins σ H s->RelV o ov->RelV i iv->RelV v u->t o i v H Q->
  wpAny (model X.prog X.w) X.A (setItem ov iv u) (λ_ s'=>∃H',Inv X pins σ H' s'/\Q H') X.xe s
def El (i:Nat):TG:=λv σ H Q=>Q (σ.set i (some v)) H
theorem MB(hN:X.N.Nodup)(hi:X.N[i]?=some x)(hx:Loc X.env.scope x)(hf:X.fn x=true\/X.env.scope.names.lookup x=some .local:=by first|exact .inl rfl|exact .inr rfl|assumption):PG X (.Name x pos) (El i):=by
 intro pins s σ H v u Q I r h;exact wpAny_assign_Name (oU I hN hi hx r (λs' I'=>⟨_,H,I',h⟩) hf)
def Wa:sV:=λvs σ H Q=>vs=[]/\Q σ H
def Sz (t:TG) (u:sV):sV:=λvs σ H Q=>∃v r,vs=v::r/\t v σ H λbH H'=>u r bH H' Q
theorem MA:AX X [] Wa:=by
 intro pins s σ H vs us Q I r h;obtain⟨e,h⟩:=h;subst e;cases r;exact assignInOrder_nil ⟨σ,H,I,h⟩
variable {es:List Expr}
theorem J0{t:TG}{u:sV}(h1:PG X e t)(h2:AX X es u)(hs:(assignEach (e::es) X.env).map (·.2)=assign e X.env::(assignEach es X.env).map (·.2):=by rfl):AX X (e::es) (Sz t u):=by
 intro pins s σ H vs us Q I r h;obtain⟨v,vr,e1,h⟩:=h;subst e1;cases r with
 |cons r rr=>
  rw[hs];refine assignInOrder_cons (cq (h1 pins s σ H _ _ _ I r h) λ_ s1 ⟨Bv,H1,I1,q1⟩=>?_);exact h2 pins s1 Bv H1 _ _ Q I1 rr q1
def W8 (K:Frag) (n:Nat) (t:sV):TG:=λv σ H Q=>∃a xs,v=.ref a/\iN K H a xs/\xs.length=n/\t xs σ H Q
theorem OH{k:Nat}{t:sV}{n:Nat}(hc:X.calm=true)(h:AX X es t)(hn:(assignEach es X.env).length=n:=by rfl)(hst:(assignEach es X.env).findIdx? (·.1)=none:=by rfl):PG X (.Tuple es k pos) (W8 X.K n t):=by
 intro pins s σ H v u Q I r hw;obtain⟨a,xs,e1,hq,hl,hw⟩:=hw;subst e1;cases r;obtain⟨ak,rv,ht,hz⟩:=I.tuple hq;refine assign_Tuple_tuple (I.ok.hd hc) ht (by simp[hn,<- hl,rv.length]) hst λh' hx=>?_;have I1:Inv X pins σ H {s with heap:=h'}:=I.kept (t':=s.toks) λb o e=>hx b o (ne_of_lt (lt_size e)) e;exact h pins _ σ H xs _ Q I1 (by simpa using rv) hw
def W9 (to ti:TE) (t:ED):TG:=λv σ H Q=>to σ H λo H1=>ti σ H1 λi H2=>t o i v H2 λH3=>Q σ H3
theorem ze{o i:Expr}{to ti:TE}{t:ED}(ho:PE X o to)(hi:PE X i ti)(hs:K4 X t)(ha:∀v,assign (.Subscript o i pos) X.env v=(do
   let ov <- holding [v] (eval o X.env);let iv <- holding [v,ov] (eval i X.env);standAt pos
   holding [v,ov,iv] (setItem ov iv v)
   release [v,ov,iv] []):=by intro _;rfl):PG X (.Subscript o i pos) (W9 to ti t):=by
 intro pins s σ H v u Q I r h;rw[ha];refine wpAny_bind (wpAny_holding (cq (ho pins s σ H _ I h) λov s1 ⟨x,H1,I1,r1,q1⟩=>?_));refine wpAny_bind (wpAny_holding (cq (hi pins s1 σ H1 _ I1 q1) λiv s2 ⟨y,H2,I2,r2,q2⟩=>?_));refine wpAny_bind (wpAny_standAt (wpAny_bind (wpAny_holding (cq (hs pins s2 σ H2 x y v ov iv u _ I2 r1 r2 r q2) λ_ s3 ⟨H3,I3,q3⟩=>?_))));exact wpAny_release ⟨σ,H3,I3,q3⟩
def Iy (te:TE) (g:TG):TS:=λD σ H=>te σ H λx H1=>g x σ H1 D.nx
variable {tg:Expr}
theorem qE{g:TG}(he:PE X e te)(hg:PG X tg g)(hs:swapsWithSole [tg] e pos.line X.env=pure false:=by rfl)(hw:swappedStores [tg] e X.env=pure none:=by rfl)(h1:(assignEach [tg] X.env).map (·.2)=[assign tg X.env]:=by rfl):PS X (.Assign [tg] e pos) (Iy te g):=by
 intro pins s σ H D I h;refine wpAny_Assign_stores (cq (he pins s σ H _ I h) λv s1 ⟨x,H1,I1,r1,q1⟩=>?_) hs hw;rw[h1];exact cq (hg pins s1 σ H1 x v _ I1 r1 q1) λ_ s2 q=>q
variable {pos':Pos}
theorem qC(hN:X.N.Nodup)(hi:X.N[i]?=some x)(hx:Loc X.env.scope x)(he:PE X e te)(hs:swapsWith e (some (.Name x pos')) pos.line X.env=pure false:=by rfl)(hf:X.fn x=true\/X.env.scope.names.lookup x=some .local:=by first|exact .inl rfl|exact .inr rfl|assumption):
  PS X (.Assign [.Name x pos'] e pos) (Iy te (El i)):=by
 intro pins s σ H D I h;refine wpAny_Assign_Name (cq (he pins s σ H _ I h) λv s1 ⟨y,H1,I1,r1,q1⟩=>?_) hs;exact oU I1 hN hi hx r1 (λs2 I2=>⟨_,H1,I2,q1⟩) hf
def Vo (i j:Nat) (ta:TA):TS:=λD σ H=>ta σ H λvs H1=>∃v w,vs=[v,w]/\D.nx ((σ.set i (some v)).set j (some w)) H1
variable {a:Expr} {px:Pos}
theorem OD{j:Nat}{y:Str}{ta:TA}{py pt:Pos}{kt k2 yX}(hc:X.calm=true)(hN:X.N.Nodup)(hi:X.N[i]?=some x)(hj:X.N[j]?=some y)(PY:i≠j)(hx:X.env.scope.names.lookup x=some .local)(hy:X.env.scope.names.lookup y=some .local)(ha:PA X [a,b] ta)(hw:swappedStores [.Tuple [.Name x px,.Name y py] kt pt] (.Tuple [a,b] k2 yX) X.env=pure (some [x,y]))(hs:swapsWithSole [.Tuple [.Name x px,.Name y py] kt pt] (.Tuple [a,b] k2 yX) pos.line X.env=pure false:=by rfl):
  PS X (.Assign [.Tuple [.Name x px,.Name y py] kt pt] (.Tuple [a,b] k2 yX) pos) (Vo i j ta):=by
 intro pins s σ H D I h;rw[exec_Assign_arm];refine wpAny_bind (wpAny_standAt ?_);rw[hs];refine wpAny_bind (wpAny_pure ?_);rw[if_neg (by decide)];refine wpAny_bind (Tuple_ (cq (ha _ pins s σ H _ I h) λus s1 ⟨vs,H1,I1,r1,q1⟩=>?_));obtain⟨v,w,e1,q1⟩:=q1;subst e1;obtain⟨u1,u2,rfl,rv,qv⟩:∃u1 u2,us=[u1,u2]/\RelV v u1/\RelV w u2:=by
  cases r1 with
  |cons p q=>
   cases q with
   |cons p' q'=>
    cases q';exact⟨_,_,rfl,p,p'⟩
 refine wpAny_newObj_type ?_ (by show 2<=sizeLine;decide);have I2:Inv X pins σ H1 {s1 with heap:=s1.heap.push {cls:=.type "tuple",data:=.seq [u1,u2].toArray}}:=I1.kept (t':=s1.toks) λb o e=>get?_push_of_some _ e;rw[hw];refine wpAny_bind (wpAny_pure ?_);show wpAny (model X.prog X.w) X.A (do rule "assign.swapped-stores";let items <- unpackItems (.ref s1.heap.objs.size) 2 none;assignInOrder [λv=>bindName X.env y v,λv=>bindName X.env x v] items.reverse;pure Flow.next) _ _ _
 refine wpAny_bind (wpAny_rule (wpAny_bind (unpackItems_tuple (items:=#[u1,u2]) (I.ok.hd hc) (IsTup.new s1.heap _) λh' zQ=>?_)));have I3:=I2.kept (h':=h') (t':=s1.toks) λb o e=>zQ b o (ne_of_lt (lt_size e)) e;show wpAny _ _ (assignInOrder [λv=>bindName X.env y v,λv=>bindName X.env x v] [u2,u1] >>= λ_=>pure Flow.next) _ _ _
 refine wpAny_bind (assignInOrder_cons (wpAny_bindName (oU I3 hN hj (.inl hy) qv (λs2 I4=>?_) (.inr hy))));refine assignInOrder_cons (wpAny_bindName (oU I4 hN hi (.inl hx) rv (λs3 I5=>assignInOrder_nil (wpAny_pure ?_)) (.inr hx)));rw[List.set_comm _ _ (Ne.symm PY)]at I5;exact⟨_,H1,I5,q1⟩
def NX (c:TT) (tb:TS):TS:=λD σ H=>∃W:Nat->St->Hp->Prop,(∃m,W m σ H)/\∀m σ H,W m σ H->
 c σ H λb H1=>if b=true then ∃N:St->Hp->Prop,(∀bH H',N bH H'->∃m',m'<m/\W m' bH H')/\tb {D with nx:=N,ct:=N,bk:=D.nx} σ H1 else D.nx σ H1
variable {body:List Stmt}
theorem IV{tc:TT}{tb:TS}(hp:PassesOwn (model X.prog X.w) X.A X.env X.xe)(hc:PT X c tc)(hb:lH X body tb):PS X (.While c body [] pos) (NX tc tb):=by
 intro pins s σ H D I h;obtain⟨W,⟨m0,w0⟩,turn⟩:=h;refine wpAny_While (codeAny_whileLoop (λn s'=>∃bH H',Inv X pins bH H' s'/\W n bH H') ?_ m0 ⟨σ,H,I,w0⟩);rintro n s1 ⟨Bv,H1,I1,w1⟩;refine wpAny_passesOwn hp (cq (hc pins s1 Bv H1 _ I1 (turn n Bv H1 w1)) λb s2 ⟨H2,I2,q2⟩=>?_);cases b with
 |true=>
  obtain⟨N,hN,q2⟩:=q2;rw[if_pos rfl];refine wpAny_passesOwn hp (cq (hb pins s2 Bv H2 _ I2 q2) λf s3 q3=>?_);cases f with
  |next=>
   obtain⟨qi,H3,I3,n3⟩:=q3;obtain⟨m',hm,w3⟩:=hN qi H3 n3;exact⟨m',hm,qi,H3,I3,w3⟩
  |cont=>
   obtain⟨qi,H3,I3,n3⟩:=q3;obtain⟨m',hm,w3⟩:=hN qi H3 n3;exact⟨m',hm,qi,H3,I3,w3⟩
  |brk=>exact q3
  |ret v=>exact q3
 |false=>
  rw[if_neg Bool.false_ne_true];exact wpAny_execs_nil ⟨Bv,H2,I2,q2⟩
structure It where
 go:Nat->Hp->Prop
 wV:Nat->Hp->V->Hp->Prop
 stop:Nat->Hp->Prop
def pQ (X:Cx) (pins:List (Addr×Obj)) (H:Hp) (b:Addr):Prop:=
 H b=none/\b≠X.env.locals/\b∉X.fs/\(b∈X.ex\/X.aL.heap.objs.size<=b)/\(∀x c,X.env.cells.lookup x=some c->c≠b)/\∀p∈X.pn++pins,p.1≠b
theorem Inv.we{σ:St}{s:Shared}{b:Addr}(I:Inv X pins σ H s)(hb:s.heap.objs.size<=b)(hn:H' b=none):pQ X pins H' b:=by
 refine⟨hn,Nat.ne_of_gt (lt_of_lt_of_le I.lt hb),I.VE hb,.inr (le_trans I.sz hb),λx c e z=>?_,λp hp z=>?_⟩
 ·obtain⟨v,q⟩:=I.cell x c e;exact absurd (lt_of_lt_of_le q.lt (by rw[z];exact hb)) (lt_irrefl _)
 ·exact absurd (lt_of_lt_of_le (lt_size (I.pin p hp).1) (by rw[z];exact hb)) (lt_irrefl _)
structure Turn (P:Program) (w:World) (K:Frag) (tg:Expr) (J:It) (fp:List Addr) (it:Addr) (tn:Nat->Heap->Prop):Prop where
 mem:it∈fp
 obj:∀i h,tn i h->∀b∈fp,∃o,h.get? b=some o/\∀v,o.data≠.cell v
 keep:∀i h h',tn i h->(∀b∈fp,∀o,h.get? b=some o->h'.get? b=some o)->tn i h'
 item:∀(X:Cx),X.prog=P->X.w=w->X.K=K->X.calm=true->∀(i:Nat) (pins:List (Addr×Obj)) (s:Shared) (σ:St) (H:Hp) (E:Value->Shared->Prop),Inv X pins σ H s->(∀b∈fp,pQ X pins H b)->tn i s.heap->J.go i H->
  wpAny (model P w) X.A (pyNext (.ref it)) (λr s1=>∃u,r=some u/\
   wpAny (model P w) X.A (letOwnedTupleGo tg (.ref it) u) (λ_ s2=>∃x H',Inv X pins σ H' s2/\RelV x u/\J.wV i H x H'/\tn (i+1) s2.heap/\∀b∈fp,H' b=none) E s1) E s
 done:∀(X:Cx),X.prog=P->X.w=w->X.K=K->X.calm=true->∀(i:Nat) (pins:List (Addr×Obj)) (s:Shared) (σ:St) (H:Hp) (E:Value->Shared->Prop),Inv X pins σ H s->(∀b∈fp,pQ X pins H b)->tn i s.heap->J.stop i H->
  wpAny (model P w) X.A (pyNext (.ref it)) (λr s1=>r=none/\Inv X pins σ H s1) E s
 self:∀(A:Around) (i:Nat) (s:Shared) (Q:Value->Shared->Prop) (E:Value->Shared->Prop),tn i s.heap->Q (.ref it) s->wpAny (model P w) A (pyIter (.ref it)) Q E s
abbrev TI:=St->Hp->(It->Hp->Prop)->Prop
def Rm (X:Cx) (pins:List (Addr×Obj)) (σ:St) (tg:Expr) (R:It->Hp->Prop) (L6:Value) (s2:Shared):Prop:=
 ∃(it:Addr) (fp:List Addr) (tn:Nat->Heap->Prop) (J:It) (H':Hp),L6=.ref it/\Inv X pins σ H' s2/\Turn X.prog X.w X.K tg J fp it tn/\tn 0 s2.heap/\(∀b∈fp,pQ X pins H' b)/\R J H'
def PI (X:Cx) (tg iter:Expr) (wi:TI):Prop:=
 ∀(pins:List (Addr×Obj)) (s:Shared) (σ:St) (H:Hp) (R:It->Hp->Prop),Inv X pins σ H s->wi σ H R->
  wpAny (model X.prog X.w) X.A (eval iter X.env) (λv s1=>wpAny (model X.prog X.w) X.A (pyIter v) (Rm X pins σ tg R) X.xe s1) X.xe s
theorem ym{s:Shared}{it:Addr}{u:Value}{n:String}{vs:Array Value}{Q:Unit->Shared->Prop}(ho:s.heap.get? it=some o)(hc:o.cls=.type n)(hd:o.data=.fields vs)(hn:["enumerate","zip","dict_itemiterator","dict_reverseitemiterator","odict_iterator","itertools.zip_longest","itertools.pairwise"].contains n=false)(hQ:Q () s):wpAny M A (letOwnedTupleGo tg (.ref it) u) Q E s:=by
 unfold letOwnedTupleGo;cases tg<;>first
  |exact wpAny_pure hQ
  |(cases u<;>first
    |exact wpAny_pure hQ
    |(refine wpAny_bind (wpAny_load ho ?_)
      rw[hc,hd];show wpAny M A (if(["enumerate","zip","dict_itemiterator","dict_reverseitemiterator","odict_iterator","itertools.zip_longest","itertools.pairwise"].contains n&&vs[0]? == some (rawInt _))=true then _ else _) Q E s;rw[if_neg (by intro h;rw[hn,Bool.false_and]at h;cases h)];exact wpAny_pure hQ))
def Rr (K:Frag) (a:Addr):It:=
 ⟨λi H=>∃xs x,fK K H a xs/\xs[i]?=some x,λi H x H'=>H'=H/\∀xs,fK K H a xs->xs[i]?=some x,λi H=>∃xs,fK K H a xs/\xs.length<=i⟩
def Rq (K:Frag) (a:Addr):It:=
 ⟨λi H=>∃xs x,iN K H a xs/\xs[i]?=some x,λi H x H'=>H'=H/\∀xs,iN K H a xs->xs[i]?=some x,λi H=>∃xs,iN K H a xs/\xs.length<=i⟩
def LU (lo:Int) (n:Nat):It:=⟨λi _=>i<n,λi H x H'=>H'=H/\x=.int (lo+i),λi _=>n<=i⟩
theorem EY(a it:Addr):Turn P w K tg (Rr K a) [it] it (λi h=>h.IsListIter it a i) where
 mem:=by simp
 obj:=λi h st b hb=>by
  have e:b=it:=by simpa using hb
  subst e;obtain⟨o,e,c,d⟩:=st;exact⟨o,e,λv z=>by rw[d]at z;cases z⟩
 keep:=λi h h' st k=>st.at λo e=>k it (by simp) o e
 item:=by
  intro X hP hw hK hc i pins s σ H E I hf st hg;subst hP hw hK;obtain⟨xs,x,hq,hx⟩:=hg;obtain⟨ak,rv,p,hz⟩:=I.list hq;obtain⟨u,hu,ru⟩:=rv.get hx;obtain⟨f0,f1,f2,f3,f4,f5⟩:=hf it (by simp);refine wpAny_pyNext_list_item st p.isList (x:=u) (by simpa using hu) λh' x9 sb=>?_;have I1:Inv X pins σ H {s with heap:=h'}:=I.turned (t':=s.toks) (λb o hb e=>(sb.2 b hb).trans e) f0 f1 f3 f4 f5;obtain⟨o,e,c,d⟩:=id x9;exact⟨u,rfl,ym (s:={s with heap:=h'}) e c d (by decide) ⟨x,H,I1,ru,⟨rfl,λys hy=>by rw[I.tI hy hq];exact hx⟩,x9,λb hb=>(hf b hb).1⟩⟩
 done:=by
  intro X hP hw hK hc i pins s σ H E I hf st hg;subst hP hw hK;obtain⟨xs,hq,hx⟩:=hg;obtain⟨ak,rv,p,hz⟩:=I.list hq;obtain⟨f0,f1,f2,f3,f4,f5⟩:=hf it (by simp);have hl:=rv.length;exact wpAny_pyNext_list_end (I.ok.hd hc) st p.isList (by simp;omega) λh' eb=>⟨rfl,I.turned (t':=s.toks) (λb o hb e=>eb b o hb e) f0 f1 f3 f4 f5⟩
 self:=λ_ _ _ _ _ st h=>wpAny_pyIter_listiter st h
theorem Dw(a it:Addr):Turn P w K tg (Rq K a) [it] it (λi h=>h.IsTupleIter it a i) where
 mem:=by simp
 obj:=λi h st b hb=>by
  have e:b=it:=by simpa using hb
  subst e;obtain⟨o,e,c,d⟩:=st;exact⟨o,e,λv z=>by rw[d]at z;cases z⟩
 keep:=λi h h' st k=>st.at λo e=>k it (by simp) o e
 item:=by
  intro X hP hw hK hc i pins s σ H E I hf st hg;subst hP hw hK;obtain⟨xs,x,hq,hx⟩:=hg;obtain⟨ak,rv,p,hz⟩:=I.tuple hq;obtain⟨u,hu,ru⟩:=rv.get hx;obtain⟨f0,f1,f2,f3,f4,f5⟩:=hf it (by simp);refine wpAny_pyNext_tuple_item st (show s.heap.IsTuple a ak.toArray from p) (x:=u) (by simpa using hu) λh' x9 sb=>?_;have I1:Inv X pins σ H {s with heap:=h'}:=I.turned (t':=s.toks) (λb o hb e=>(sb.2 b hb).trans e) f0 f1 f3 f4 f5;obtain⟨o,e,c,d⟩:=id x9;exact⟨u,rfl,ym (s:={s with heap:=h'}) e c d (by decide) ⟨x,H,I1,ru,⟨rfl,λys hy=>by rw[I.wX hy hq];exact hx⟩,x9,λb hb=>(hf b hb).1⟩⟩
 done:=by
  intro X hP hw hK hc i pins s σ H E I hf st hg;subst hP hw hK;obtain⟨xs,hq,hx⟩:=hg;obtain⟨ak,rv,p,hz⟩:=I.tuple hq;obtain⟨f0,f1,f2,f3,f4,f5⟩:=hf it (by simp);have hl:=rv.length;exact wpAny_pyNext_tuple_end (I.ok.hd hc) st (show s.heap.IsTuple a ak.toArray from p) (by simp;omega) λh' eb=>⟨rfl,I.turned (t':=s.toks) (λb o hb e=>eb b o hb e) f0 f1 f3 f4 f5⟩
 self:=λ_ _ _ _ _ st h=>wpAny_pyIter_tupleiter st h
theorem Dx(it:Addr)(lo:Int)(n:Nat):Turn P w K tg (LU lo n) [it] it (λi h=>IsRangeIter h it (lo+(i:Nat)*1) ((n:Int)-(i:Nat)) 1) where
 mem:=by simp
 obj:=λi h st b hb=>by
  have e:b=it:=by simpa using hb
  subst e;exact⟨_,st,λv z=>by
   have z':Data.fields _=Data.cell v:=z;cases z'⟩
 keep:=λi h h' st k=>k it (by simp) _ st
 item:=by
  intro X hP hw hK hc i pins s σ H E I hf st hg;subst hP hw hK;obtain⟨f0,f1,f2,f3,f4,f5⟩:=hf it (by simp);have W:=Walks.range (prog:=X.prog) (w:=X.w) (I.ok.hd hc) it lo 1 n;refine W.item i s _ _ hg st λv h' tk hv x9 kk=>?_;obtain⟨t,rfl⟩:=hv;have I1:Inv X pins σ H {s with heap:=h',toks:=tk}:=I.turned (λb o hb e=>kk b o (by simpa using hb) e) f0 f1 f3 f4 f5;refine⟨_,rfl,ym (s:={s with heap:=h',toks:=tk}) (n:="range_iterator") x9 rfl rfl (by decide) ⟨.int (lo+i),H,I1,⟨t,?_⟩,⟨rfl,rfl⟩,x9,λb hb=>(hf b hb).1⟩⟩;rw[Int.mul_one]
 done:=by
  intro X hP hw hK hc i pins s σ H E I hf st hg;subst hP hw hK;obtain⟨f0,f1,f2,f3,f4,f5⟩:=hf it (by simp);exact wpAny_pyNext_range_end (I.ok.hd hc) st (by have:n<=i:=hg;omega) λh' eb=>⟨rfl,I.turned (t':=s.toks) (λb o hb e=>eb b o hb e) f0 f1 f3 f4 f5⟩
 self:=λ_ _ _ _ _ st h=>wpAny_pyIter_rangeiter st h
open PySem PySem.Spec PyProof.Rows
theorem II{σ:St}{s:Shared}{R:It->Hp->Prop}{lo hi:Int}{t u v:Tok}{tk:Nat}(I:Inv X pins σ H s)(h1: -(2^62)<=lo)(h2:lo<2^62)(h3: -(2^62)<=hi)(h4:hi<2^62)(q:R (LU lo (hi-lo).toNat) H):wpAny (model X.prog X.w) X.A (pyIter (.ref s.heap.objs.size)) (Rm X pins σ tg R) E {s with heap:=s.heap.push {cls:=.type "range",data:=.fields #[.int lo t,.int hi u,.int 1 v]},toks:=tk}:=by
 refine wpAny_pyIter_range (IsRange.new ..) (small_one h1 h2 h3 h4) ?_;have I1:Inv X pins σ H {s with heap:=s.heap.push {cls:=.type "range",data:=.fields #[.int lo t,.int hi u,.int 1 v]},toks:=tk}:=I.kept λb o e=>get?_push_of_some _ e;refine⟨(s.heap.push {cls:=.type "range",data:=.fields #[.int lo t,.int hi u,.int 1 v]}).objs.size,[(s.heap.push {cls:=.type "range",data:=.fields #[.int lo t,.int hi u,.int 1 v]}).objs.size],_,_,H,rfl,
  I1.kept (t':=tk) λb o e=>get?_push_of_some _ e,Dx _ lo (hi-lo).toNat,?_,λb hb=>?_,q⟩
 ·have e1:lo+((0:Nat):Int)*1=lo:=by simp
  have e2:(((hi-lo).toNat:Nat):Int)-((0:Nat):Int)=Builtin.Range.rangeSize lo hi 1:=by rw[rangeSize_one];split<;>omega
  show IsRangeIter _ _ (lo+((0:Nat):Int)*1) ((((hi-lo).toNat:Nat):Int)-((0:Nat):Int)) 1;rw[e1,e2];exact get?_push_size _ rfl
 ·have e:b=(s.heap.push {cls:=.type "range",data:=.fields #[.int lo t,.int hi u,.int 1 v]}).objs.size:=by simpa using hb
  subst e;exact I1.we (le_refl _) (I1.bx.fresh (le_refl _))
def Sl (ta:TA):TI:=λσ H R=>ta σ H λvs H1=>∃j:Int,vs=[.int j]/\-(2^62)<=j/\j<2^62/\R (LU 0 j.toNat) H1
theorem qG{ta:TA}{p:Pos}(hg:Gl X "range")(hm:X.mg "range"=none)(ha:PA X [a] ta)(hs:starEach [a] X.env=[(false,eval a X.env)]:=by rfl):PI X tg (.Call (.Name "range" p) [a] [] pos) (Sl ta):=by
 intro pins s σ H R I h;refine Call_ (mN I hg hm boot_range (PyProof.Rows.callWith_type1 (cq (ha pos pins s σ H _ I h) λus s1 ⟨vs,H1,I1,r1,q1⟩=>?_) hs rfl));obtain⟨j,e,q1,q2,q⟩:=q1;subst e;cases r1 with
 |cons r rr=>
  cases rr;obtain⟨t,rfl⟩:=r;exact call_range_1 (II I1 (by omega) (by omega) q1 q2 (by simpa using q))
def Vu (wi:TI) (g:TG) (tb:TS):TS:=λD σ H=>wi σ H λJ H1=>∃W:Nat->Nat->St->Hp->Prop,(∃m,W 0 m σ H1)/\∀i m σ H,W i m σ H->
 (J.stop i H/\D.nx σ H)\/(J.go i H/\∃N:St->Hp->Prop,(∀bH H',N bH H'->∃m',m'<m/\W (i+1) m' bH H')/\∀x H',J.wV i H x H'->g x σ H' λgj H2=>tb {D with nx:=N,ct:=N,bk:=D.nx} gj H2)
def oA (fp:List Addr) (h:Heap):List (Addr×Obj):=fp.filterMap λb=>(h.get? b).map λo=>(b,o)
variable {fp:List Addr}
theorem jb{b:Addr}(hb:b∈fp)(e:h.get? b=some o):(b,o)∈oA fp h:=List.mem_filterMap.mpr ⟨b,hb,by rw[e];rfl⟩
theorem Gn{p:Addr×Obj}(hp:p∈oA fp h):p.1∈fp/\h.get? p.1=some p.2:=by
 obtain⟨b,hb,e⟩:=List.mem_filterMap.mp hp;cases q:h.get? b with
 |none=>rw[q]at e;cases e
 |some o=>
  rw[q]at e;have e':(b,o)=p:=Option.some.inj e;subst e';exact⟨hb,q⟩
theorem Inv.pinned{σ:St}{s:Shared}(I:Inv X pins σ H s)(hf:∀b∈fp,pQ X pins H b)(ho:∀b∈fp,∃o,s.heap.get? b=some o/\∀v,o.data≠.cell v):Inv X (pins++oA fp s.heap) σ H s:=
 I.jV λp hp=>(mem_append.mp hp).elim (λz=>I.pin p (mem_append_right _ z)) λz=>by
  obtain⟨hb,e⟩:=Gn z;obtain⟨f0,f1,f2,_⟩:=hf p.1 hb;obtain⟨o,e',d⟩:=ho p.1 hb;rw[e]at e';cases e';exact⟨e,f0,f1,f2,d⟩
theorem Inv.sZ{pl:List (Addr×Obj)}{σ:St}{s:Shared}(I:Inv X (pins++pl) σ H s):Inv X pins σ H s:=I.jV λp hp=>I.pin p (mem_append_right _ (mem_append_left _ hp))
variable {iter:Expr} {wi:TI}
theorem uI{g:TG}{tb:TS}(hp:PassesOwn (model X.prog X.w) X.A X.env X.xe)(hc:X.calm=true)(hi:PI X tg iter wi)(hg:PG X tg g)(hb:lH X body tb)(hs:∀x,foldedSetIterable iter X.env x=pure x:=by intro _;rfl):PS X (.For tg iter body [] pos) (Vu wi g tb):=by
 intro pins s σ H D I h;refine wpAny_For (cq (hi pins s σ H _ I h) λv s1 h1=>cq h1 λL6 s2 h2=>?_) hs;obtain⟨it,fp,tn,J,H2,e,I2,T,ke,f2,W,⟨m0,w0⟩,turn⟩:=h2;subst e

 have mE:∀{H':Hp},(∀b∈fp,H' b=none)->∀b∈fp,pQ X pins H' b:=λhn b hb=>⟨hn b hb,(f2 b hb).2⟩;refine codeAny_forLoop_any (λn s'=>∃i bH H',Inv X pins bH H' s'/\tn i s'.heap/\(∀b∈fp,H' b=none)/\W i n bH H') ?_ m0 ⟨0,σ,H2,I2,ke,λb hb=>(f2 b hb).1,w0⟩;rintro n s3 ⟨i,qi,H3,I3,T1,Ui,w3⟩;rcases turn i n qi H3 w3 with⟨stop,qn⟩|⟨go,N,hN,step⟩
 ·refine wpAny_passesOwn hp (cq (T.done X rfl rfl rfl hc i pins s3 qi H3 X.xe I3 (mE Ui) T1 stop) λr s4 ⟨hr,I4⟩=>?_);subst hr;exact wpAny_execs_nil ⟨qi,H3,I4,qn⟩
 ·refine wpAny_passesOwn hp (cq (T.item X rfl rfl rfl hc i pins s3 qi H3 X.xe I3 (mE Ui) T1 go) λr s4 ⟨u,hr,h4⟩=>?_);subst hr;refine wpAny_passesOwn hp (cq h4 λ_ s5 ⟨x,H5,I5,r5,y5,qq,Hg⟩=>?_);have Ii:=I5.pinned (mE Hg) (T.obj _ _ qq);refine wpAny_passesOwn hp (cq (hg _ s5 qi H5 x u _ Ii r5 (step x H5 y5)) λ_ s6 ⟨ud,H6,I6,q6⟩=>?_);refine wpAny_passesOwn hp (cq (hb _ s6 ud H6 _ I6 q6) λf s7 q7=>?_);have again:∀{qh:St} {H7:Hp},Inv X (pins++oA fp s5.heap) qh H7 s7->N qh H7->∃m,m<n/\∃i bH H',Inv X pins bH H' s7/\tn i s7.heap/\(∀b∈fp,H' b=none)/\W i m bH H':=fun{qh H7} I7 n7=>by
   obtain⟨m',hm,w7⟩:=hN qh H7 n7;refine⟨m',hm,i+1,qh,H7,I7.sZ,T.keep _ _ _ qq λb hb o e=>(I7.pin (b,o) (mem_append_right _ (mem_append_right _ (jb hb e)))).1,λb hb=>?_,w7⟩;obtain⟨o,e,d⟩:=T.obj _ _ qq b hb;exact(I7.pin (b,o) (mem_append_right _ (mem_append_right _ (jb hb e)))).2.1
  cases f with
  |next=>obtain⟨qh,H7,I7,n7⟩:=q7;exact again I7 n7
  |cont=>obtain⟨qh,H7,I7,n7⟩:=q7;exact again I7 n7
  |brk=>obtain⟨qh,H7,I7,q7⟩:=q7;exact⟨qh,H7,I7.sZ,q7⟩
  |ret v=>obtain⟨x7,qh,H7,I7,r7,q7⟩:=q7;exact⟨x7,qh,H7,I7.sZ,r7,q7⟩
open PySem PySem.Spec PyProof.Rows
abbrev R2:=V->V->Hp->VK->Prop
def dS (X:Cx) (f:Value->Value->Sem Value) (r:R2):Prop:=
 ∀(pins:List (Addr×Obj)) (s:Shared) (σ:St) (H:Hp) (x y:V) (v u:Value) (Q:VK),Inv X pins σ H s->RelV x v->RelV y u->r x y H Q->
  wpAny (model X.prog X.w) X.A (f v u) (EP X pins σ Q) X.xe s
def LL (X:Cx) (f:Value->Sem Value) (r:V->Hp->VK->Prop):Prop:=
 ∀(pins:List (Addr×Obj)) (s:Shared) (σ:St) (H:Hp) (x:V) (v:Value) (Q:VK),Inv X pins σ H s->RelV x v->r x H Q->
  wpAny (model X.prog X.w) X.A (f v) (EP X pins σ Q) X.xe s
def kH (X:Cx) (f:Value) (r:List V->Hp->VK->Prop):Prop:=
 ∀(pins:List (Addr×Obj)) (s:Shared) (σ:St) (H:Hp) (xs:List V) (us:List Value) (Q:VK),Inv X pins σ H s->Vals xs us->r xs H Q->
  wpAny (model X.prog X.w) X.A (call f us) (EP X pins σ Q) X.xe s
def Wm (X:Cx) (r:V->Hp->(Bool->Hp->Prop)->Prop):Prop:=
 ∀(pins:List (Addr×Obj)) (s:Shared) (σ:St) (H:Hp) (x:V) (v:Value) (Q:Bool->Hp->Prop),Inv X pins σ H s->RelV x v->r x H Q->
  wpAny (model X.prog X.w) X.A (truthy v) (TP X pins σ Q) X.xe s
def BG (r:R2) (ta tb:TE):TE:=λσ H Q=>ta σ H λx H1=>tb σ H1 λy H2=>r x y H2 Q
def Wz (r:V->Hp->VK->Prop) (ta:TE):TE:=λσ H Q=>ta σ H λx H1=>r x H1 Q
def rI (C:Int->Int->Prop) (g:Int->Int->V):R2:=λx y H Q=>∃i j,x=.int i/\y=.int j/\C i j/\Q (g i j) H
def xh (g:Int->Int->V):R2:=λx y H Q=>∃i j,x=.int i/\y=.int j/\Q (g i j) H
def rU (g:Int->V):V->Hp->VK->Prop:=λx H Q=>∃i,x=.int i/\Q (g i) H
variable {f:Value->Value->Sem Value}
theorem JY(ha:PE X a ta)(hb:PE X b tb){s:Shared}{σ:St}{R:V->V->Hp->Prop}(I:Inv X pins σ H s)(h:ta σ H λx H1=>tb σ H1 λy H2=>R x y H2){Q:Value->Shared->Prop}(hf:∀v u s2 x y H2,Inv X pins σ H2 s2->RelV x v->RelV y u->R x y H2->wpAny (model X.prog X.w) X.A (f v u) Q X.xe s2):
  wpAny (model X.prog X.w) X.A (eval a X.env) (λv bW=>wpAny (model X.prog X.w) X.A (eval b X.env) (λu bB=>wpAny (model X.prog X.w) X.A (f v u) Q X.xe bB) X.xe bW) X.xe s:=by
 refine cq (ha pins s σ H _ I h) λv s1 ⟨x,H1,I1,r1,q1⟩=>?_;refine cq (hb pins s1 σ H1 _ I1 q1) λu s2 ⟨y,H2,I2,r2,q2⟩=>?_;exact hf v u s2 x y H2 I2 r1 r2 q2
theorem yg{op:Operator}{r:R2}(ho:dS X (binaryOp op) r)(ha:PE X a ta)(hb:PE X b tb):PE X (.BinOp a op b pos) (BG r ta tb):=by
 intro pins s σ H Q I h;exact wpAny_BinOp (JY ha hb I h λv u s2 x y H2 I2 rx ry q=>ho pins s2 σ H2 x y v u Q I2 rx ry q)
theorem S6{op:UnaryOp}{r:V->Hp->VK->Prop}(ho:LL X (unaryOp op) r)(ha:PE X a ta):PE X (.UnaryOp op a pos) (Wz r ta):=by
 intro pins s σ H Q I h;exact UnaryOp_ (cq (ha pins s σ H _ I h) λv s1 ⟨x,H1,I1,r1,q1⟩=>ho pins s1 σ H1 x v Q I1 r1 q1)
variable {C:Int->Int->Prop}
theorem KP{g:Int->Int->Int}(rule:∀(i j:Int) (t u:Tok) (s:Shared) (Q:Value->Shared->Prop) (E:Value->Shared->Prop),C i j->Q (.int (g i j) s.toks) {s with toks:=s.toks+1}->wpAny (model X.prog X.w) X.A (f (.int i t) (.int j u)) Q E s):
  dS X f (rI C λi j=>.int (g i j)):=by
 intro pins s σ H x y v u Q I rx ry h;obtain⟨i,j,rfl,rfl,hc,q⟩:=h;obtain⟨t,rfl⟩:=rx;obtain⟨t',rfl⟩:=ry;exact rule i j t t' s _ _ hc ⟨.int (g i j),H,I.tok _,⟨_,rfl⟩,q⟩
theorem VB{g:Int->Int->Int}(rule:∀(i j:Int) (t u:Tok) (s:Shared) (Q:Value->Shared->Prop) (E:Value->Shared->Prop),Q (.int (g i j) s.toks) {s with toks:=s.toks+1}->wpAny (model X.prog X.w) X.A (f (.int i t) (.int j u)) Q E s):
  dS X f (xh λi j=>.int (g i j)):=by
 intro pins s σ H x y v u Q I rx ry h;obtain⟨i,j,rfl,rfl,q⟩:=h;obtain⟨t,rfl⟩:=rx;obtain⟨t',rfl⟩:=ry;exact rule i j t t' s _ _ ⟨.int (g i j),H,I.tok _,⟨_,rfl⟩,q⟩
theorem E4{g:Int->Int->Bool}(rule:∀(i j:Int) (t u:Tok) (s:Shared) (Q:Value->Shared->Prop) (E:Value->Shared->Prop),Q (.bool (g i j)) s->wpAny (model X.prog X.w) X.A (f (.int i t) (.int j u)) Q E s):
  dS X f (xh λi j=>.bl (g i j)):=by
 intro pins s σ H x y v u Q I rx ry h;obtain⟨i,j,rfl,rfl,q⟩:=h;obtain⟨t,rfl⟩:=rx;obtain⟨t',rfl⟩:=ry;exact rule i j t t' s _ _ ⟨.bl (g i j),H,I,rfl,q⟩
def B5 (i j:Int):Prop:=0<=j/\j<=1000000/\i.natAbs<2^64
theorem uL:dS X (binaryOp .Add) (xh λi j=>.int (i+j)):=VB λ_ _ _ _ _ _ _ q=>add_int q
theorem OO:dS X (binaryOp .Pow) (rI B5 λi j=>.int (i^j.toNat)):=KP λ_ _ _ _ _ _ _ hc q=>pow_int_small hc.1 hc.2.1 hc.2.2 q
theorem Wy{f:Value->Sem Value}{g:Int->Int}(rule:∀(i:Int) (t:Tok) (s:Shared) (Q:Value->Shared->Prop) (E:Value->Shared->Prop),Q (.int (g i) s.toks) {s with toks:=s.toks+1}->wpAny (model X.prog X.w) X.A (f (.int i t)) Q E s):
  LL X f (rU λi=>.int (g i)):=by
 intro pins s σ H x v Q I rx h;obtain⟨i,rfl,q⟩:=h;obtain⟨t,rfl⟩:=rx;exact rule i t s _ _ ⟨.int (g i),H,I.tok _,⟨_,rfl⟩,q⟩
theorem NS:LL X (unaryOp .USub) (rU λi=>.int (-i)):=Wy λ_ _ _ _ _ q=>neg_int q
def Oa:V->V->Bool
 | .bO,.bO=>true| .bO,.int _=>true| .int _,.bO=>true| .bO,.bl _=>true| .bl _,.bO=>true| .bO,.str _=>true| .str _,.bO=>true
 | .int _,.int _=>true| .bl _,.bl _=>true| .str _,.str _=>true| .mZ _,.mZ _=>true
 | .int _,.str _=>true| .str _,.int _=>true| .bl _,.str _=>true| .str _,.bl _=>true
 |_,_=>false
def T8:R2:=λx y H Q=>Oa x y=true/\Q (.bl (decide (x=y))) H
def T6:R2:=λx y H Q=>Oa x y=true/\Q (.bl (!decide (x=y))) H
theorem Dh{i j:Int}:decide (V.int i=V.int j)=(i==j):=by
 rw[Bool.eq_iff_iff];simp
theorem vg{i j:Bool}:decide (V.bl i=V.bl j)=(i==j):=by
 rw[Bool.eq_iff_iff];simp
theorem Dg{i j:Str}:decide (V.str i=V.str j)=(i==j):=by
 rw[Bool.eq_iff_iff];simp
theorem Di{i j:Array UInt8}:decide (V.mZ i=V.mZ j)=(i.toList==j.toList):=by
 rw[Bool.eq_iff_iff];cases i;cases j;simp
variable {Q:VK}
theorem bU{σ:St}{s:Shared}{k k':Bool}(I:Inv X pins σ H s)(q:Q (.bl k) H)(e:k=k'):EP X pins σ Q (.bool k') s:=by
 subst e;exact⟨.bl k,H,I,rfl,q⟩
theorem E1:dS X (compareOp .Eq) T8:=by
 intro pins s σ H x y v u Q I rx ry h;obtain⟨hs,q⟩:=h;cases x with
 |bO=>
  cases rx;cases y with
  |bO=>cases ry;exact PySem.EqNone.eq_none_none (bU I q (by simp))
  |bl j=>cases ry;exact PySem.EqNone.eq_none_bool (bU I q (by simp))
  |int j=>obtain⟨t',rfl⟩:=ry;exact PySem.EqNone.eq_none_int (bU I q (by simp))
  |str j=>obtain⟨t',rfl⟩:=ry;exact PySem.EqNone.eq_none_str (bU I q (by simp))
  |_=>exact absurd (show false=true from hs) Bool.false_ne_true
 |bl i=>
  cases rx;cases y with
  |bO=>cases ry;exact PySem.EqNone.eq_bool_none (bU I q (by simp))
  |bl j=>cases ry;exact eq_bool (bU I q vg)
  |str j=>obtain⟨t',rfl⟩:=ry;exact PySem.EqMixed.eq_bool_str (bU I q (by simp))
  |_=>exact absurd (show false=true from hs) Bool.false_ne_true
 |int i=>
  obtain⟨t,rfl⟩:=rx;cases y with
  |bO=>cases ry;exact PySem.EqNone.eq_int_none (bU I q (by simp))
  |int j=>obtain⟨t',rfl⟩:=ry;exact eq_int (bU I q Dh)
  |str j=>obtain⟨t',rfl⟩:=ry;exact PySem.EqMixed.eq_int_str (bU I q (by simp))
  |_=>exact absurd (show false=true from hs) Bool.false_ne_true
 |str i=>
  obtain⟨t,rfl⟩:=rx;cases y with
  |bO=>cases ry;exact PySem.EqNone.eq_str_none (bU I q (by simp))
  |bl j=>cases ry;exact PySem.EqMixed.eq_str_bool (bU I q (by simp))
  |int j=>obtain⟨t',rfl⟩:=ry;exact PySem.EqMixed.eq_str_int (bU I q (by simp))
  |str j=>obtain⟨t',rfl⟩:=ry;exact eq_str (bU I q Dg)
  |_=>exact absurd (show false=true from hs) Bool.false_ne_true
 |mZ i=>
  obtain⟨t,rfl⟩:=rx;cases y with
  |mZ j=>obtain⟨t',rfl⟩:=ry;exact PySem.W.eq_bytes (bU I q Di)
  |_=>exact absurd (show false=true from hs) Bool.false_ne_true
 |_=>cases y<;>exact absurd (show false=true from hs) Bool.false_ne_true
theorem KL:dS X (compareOp .NotEq) T6:=by
 intro pins s σ H x y v u Q I rx ry h;obtain⟨hs,q⟩:=h;cases x with
 |bO=>
  cases rx;cases y with
  |bO=>cases ry;exact PySem.EqNone.ne_none_none (bU I q (by simp))
  |bl j=>cases ry;exact PySem.EqNone.ne_none_bool (bU I q (by simp))
  |int j=>obtain⟨t',rfl⟩:=ry;exact PySem.EqNone.ne_none_int (bU I q (by simp))
  |str j=>obtain⟨t',rfl⟩:=ry;exact PySem.EqNone.ne_none_str (bU I q (by simp))
  |_=>exact absurd (show false=true from hs) Bool.false_ne_true
 |bl i=>
  cases rx;cases y with
  |bO=>cases ry;exact PySem.EqNone.ne_bool_none (bU I q (by simp))
  |bl j=>cases ry;exact ne_bool (bU I q (congrArg not vg))
  |str j=>obtain⟨t',rfl⟩:=ry;exact PySem.EqMixed.ne_bool_str (bU I q (by simp))
  |_=>exact absurd (show false=true from hs) Bool.false_ne_true
 |int i=>
  obtain⟨t,rfl⟩:=rx;cases y with
  |bO=>cases ry;exact PySem.EqNone.ne_int_none (bU I q (by simp))
  |int j=>obtain⟨t',rfl⟩:=ry;exact ne_int (bU I q (congrArg not Dh))
  |str j=>obtain⟨t',rfl⟩:=ry;exact PySem.EqMixed.ne_int_str (bU I q (by simp))
  |_=>exact absurd (show false=true from hs) Bool.false_ne_true
 |str i=>
  obtain⟨t,rfl⟩:=rx;cases y with
  |bO=>cases ry;exact PySem.EqNone.ne_str_none (bU I q (by simp))
  |bl j=>cases ry;exact PySem.EqMixed.ne_str_bool (bU I q (by simp))
  |int j=>obtain⟨t',rfl⟩:=ry;exact PySem.EqMixed.ne_str_int (bU I q (by simp))
  |str j=>obtain⟨t',rfl⟩:=ry;exact ne_str (bU I q (congrArg not Dg))
  |_=>exact absurd (show false=true from hs) Bool.false_ne_true
 |mZ i=>
  obtain⟨t,rfl⟩:=rx;cases y with
  |mZ j=>obtain⟨t',rfl⟩:=ry;exact PySem.W.ne_bytes (bU I q (congrArg not Di))
  |_=>exact absurd (show false=true from hs) Bool.false_ne_true
 |_=>cases y<;>exact absurd (show false=true from hs) Bool.false_ne_true
theorem KN:dS X (compareOp .Lt) (xh λi j=>.bl (decide (i<j))):=E4 λ_ _ _ _ _ _ _ q=>lt_int q
theorem Sa:dS X (compareOp .LtE) (xh λi j=>.bl (decide (i<=j))):=E4 λ_ _ _ _ _ _ _ q=>le_int q
theorem KO:dS X (compareOp .Gt) (xh λi j=>.bl (decide (j<i))):=E4 λ_ _ _ _ _ _ _ q=>gt_int q
theorem Sb:dS X (compareOp .GtE) (xh λi j=>.bl (decide (j<=i))):=E4 λ_ _ _ _ _ _ _ q=>ge_int q
theorem Gh:dS X (compareOp .In) (λx y H Q=>∃i j,x=.str i/\y=.str j/\Q (.bl (!(Builtin.Str.occurrences j i 0 j.length 1).isEmpty)) H):=by
 intro pins s σ H x y v u Q I rx ry h;obtain⟨i,j,rfl,rfl,q⟩:=h;obtain⟨t,rfl⟩:=rx;obtain⟨t',rfl⟩:=ry;exact in_str (bU I q rfl)
theorem OP:dS X (compareOp .Is) (λx y H Q=>y=.bO/\Q (.bl (decide (x=.bO))) H):=by
 intro pins s σ H x y v u Q I rx ry h;obtain⟨rfl,q⟩:=h;cases ry;refine is_none_gen (bU I q ?_);cases x<;>first
  |(cases rx;rfl)
  |(obtain⟨t,rfl⟩:=rx;rfl)
variable {r:R2}
theorem dS.or{r':R2}(h:dS X f r)(h':dS X f r'):dS X f (λx y H Q=>r x y H Q\/r' x y H Q):=by
 intro pins s σ H x y v u Q I rx ry q;rcases q with q|q
 ·exact h pins s σ H x y v u Q I rx ry q
 ·exact h' pins s σ H x y v u Q I rx ry q
variable {op:CmpOp}
theorem ie(b:Expr)(h:op≠.In:=by decide)(h2:op≠.NotIn:=by decide):behindInMarks op b=false:=by
 have e1:(op==CmpOp.In)=false:=by cases op<;>first|rfl|exact absurd rfl h
 have e2:(op==CmpOp.NotIn)=false:=by cases op<;>first|rfl|exact absurd rfl h2
 cases b<;>simp[behindInMarks,e1,e2]
theorem MF(ho:dS X (compareOp op) r)(ha:PE X a ta)(hb:PE X b tb)(hm:behindInMarks op b=false):PE X (.Compare a [op] [b] pos) (BG r ta tb):=by
 intro pins s σ H Q I h;exact wpAny_Compare1 (JY ha hb I h λv u s2 x y H2 I2 rx ry q=>ho pins s2 σ H2 x y v u Q I2 rx ry q) hm
def Kl (t:TE):TT:=λσ H Q=>t σ H λx H'=>∃k,x=.bl k/\Q k H'
theorem C6(ho:dS X (compareOp op) r)(ha:PE X a ta)(hb:PE X b tb)(hm:behindInMarks op b=false):PT X (.Compare a [op] [b] pos) (Kl (BG r ta tb)):=by
 intro pins s σ H Q I h;refine wpAny_isTrue_Compare1 (cq (ha pins s σ H _ I h) λv s1 ⟨x,H1,I1,r1,q1⟩=>cq (hb pins s1 σ H1 _ I1 q1) λu s2 ⟨y,H2,I2,r2,q2⟩=>
  cq (ho pins s2 σ H2 x y v u _ I2 r1 r2 q2) λc s3 ⟨z,H3,I3,r3,k,e,q3⟩=>?_) hm
 subst e;cases r3;exact wpAny_truthy_bool ⟨H3,I3,q3⟩
def K3 (K:Frag) (x:V) (H:Hp) (k:Bool):Prop:=
 match x with
 | .bO=>k=false
 | .bl b=>k=b
 | .int i=>k=(i !=0)
 | .str y=>y.length<=sizeLine/\k=((y.length:Int) !=0)
 | .mZ y=>y.size<=sizeLine/\k=((y.size:Int) !=0)
 | .ref p=>(∃xs,fK K H p xs/\k=!xs.isEmpty)\/(∃xs,iN K H p xs/\k=!xs.isEmpty)\/∃gc,H p=some (.dK gc)/\k=!gc.isEmpty
 |_=>False
theorem E9{κ:Type}{gc:List (κ×V)}{vs:List (κ×Value)}(r:KV gc vs):(!vs.isEmpty)=!gc.isEmpty:=by
 cases r<;>rfl
variable {ak:List Value}
theorem uR(r:Vals xs ak):(!ak.toArray.isEmpty)=!xs.isEmpty:=by
 cases r<;>simp
theorem qN:(sizeLine:Nat)<2^63:=by rw[sizeLine_eq];decide
theorem NV:Wm X (λx H Q=>∃k,K3 X.K x H k/\Q k H):=by
 intro pins s σ H x v Q I rx h;obtain⟨k,e,q⟩:=h;have hl:=qN;have hs:sizeLine=16777216:=sizeLine_eq;cases x with
 |bO=>
  cases rx;have e':k=false:=e;subst e';exact truthy_none ⟨H,I,q⟩
 |bl b=>
  cases rx;have e':k=b:=e;subst e';exact wpAny_truthy_bool ⟨H,I,q⟩
 |int i=>
  obtain⟨t,rfl⟩:=rx;have e':k=(i !=0):=e;subst e';exact PySem.P.truthy_int ⟨H,I,q⟩
 |str y=>
  obtain⟨t,rfl⟩:=rx;obtain⟨hy,e'⟩:y.length<=sizeLine/\k=((y.length:Int) !=0):=e;subst e';exact PySem.P.truthy_str (by omega) ⟨H,I.tok _,q⟩
 |mZ y=>
  obtain⟨t,rfl⟩:=rx;obtain⟨hy,e'⟩:y.size<=sizeLine/\k=((y.size:Int) !=0):=e;subst e';exact PySem.W.truthy_bytes (by omega) ⟨H,I.tok _,q⟩
 |ref p=>
  cases rx;have e':(∃xs,fK X.K H p xs/\k=!xs.isEmpty)\/(∃xs,iN X.K H p xs/\k=!xs.isEmpty)\/∃gc,H p=some (.dK gc)/\k=!gc.isEmpty:=e;rcases e' with⟨xs,hx,e'⟩|⟨xs,hx,e'⟩|⟨gc,hx,e'⟩
  ·subst e';obtain⟨ak,r,pl,hz⟩:=I.list hx;have hlen:=r.length;exact wpAny_truthy_list pl.isList (by simp only[size_toArray];omega) ⟨H,I.tok _,by rw[uR r];exact q⟩
  ·subst e';obtain⟨ak,r,pl,hz⟩:=I.tuple hx;have hlen:=r.length;exact truthy_tuple pl (by simp only[size_toArray];omega) ⟨H,I.tok _,by rw[uR r];exact q⟩
  ·subst e';obtain⟨hz,hS,vs,r,m⟩:gc.length<=sizeLine/\(p==sysModules)=false/\∃vs,KV gc vs/\s.heap.DictOf (vX X.prog X.w) p vs:=I.bx p _ hx;have hlen:gc.length=vs.length:=Paired.length r;exact wpAny_truthy_dict hS m (by omega) ⟨H,I.tok _,by rw[E9 r];exact q⟩
 |_=>exact(show False from e).elim
theorem IS(ha:PE X a ta)(he:∀whole,isTrue a X.env whole=(do let v <- whole;standAt a.pos;holding [v] (truthy v))):
  PT X a (λσ H Q=>ta σ H λx H'=>∃k,K3 X.K x H' k/\Q k H'):=by
 intro pins s σ H Q I h;exact isTrue_plain (cq (ha pins s σ H _ I h) λv s1 ⟨x,H1,I1,r1,q1⟩=>NV pins s1 σ H1 x v Q I1 r1 q1) (he _)
theorem lY:dS X (binaryOp .Add) (λx y H Q=>∃i j,x=.str i/\y=.str j/\i.length+j.length<=sizeLine/\Q (.str (i++j)) H):=by
 intro pins s σ H x y v u Q I rx ry h;obtain⟨i,j,rfl,rfl,hz,q⟩:=h;obtain⟨t,rfl⟩:=rx;obtain⟨t',rfl⟩:=ry;exact add_str (λt' tk=>⟨.str (i++j),H,I.tok _,⟨_,rfl⟩,q⟩) hz
theorem vals1{x:V}(r:Vals [x] us):∃u,us=[u]/\RelV x u:=by
 cases r with
 |cons r1 r2=>cases r2;exact⟨_,rfl,r1⟩
variable {y:V}
theorem vals2{x:V}(r:Vals [x,y] us):∃u w',us=[u,w']/\RelV x u/\RelV y w':=by
 cases r with
 |cons r1 r2=>
  cases r2 with
  |cons r3 r4=>cases r4;exact⟨_,_,rfl,r1,r3⟩
theorem JX:kH X (.builtin "abs") (λxs H Q=>∃i,xs=[.int i]/\Q (.int (if i<0 then -i else i)) H):=by
 intro pins s σ H xs us Q I r h;obtain⟨i,rfl,q⟩:=h;obtain⟨u,rfl,t,rfl⟩:=vals1 r;exact call_abs_int λu tk=>⟨.int (if i<0 then -i else i),H,I.tok _,⟨_,rfl⟩,q⟩
def Ro (K:Frag) (x:V) (H:Hp) (n:Nat):Prop:=
 match x with
 | .str y=>y.length<=sizeLine/\n=y.length
 | .mZ y=>y.size<=sizeLine/\n=y.size
 | .ref p=>(∃xs,fK K H p xs/\n=xs.length)\/∃xs,iN K H p xs/\n=xs.length
 |_=>False
theorem JW:kH X (.builtin "len") (λxs H Q=>∃x n,xs=[x]/\Ro X.K x H n/\Q (.int n) H):=by
 intro pins s σ H xs us Q I r h;obtain⟨x,n,rfl,e,q⟩:=h;obtain⟨u,rfl,rx⟩:=vals1 r;have hl:=qN;have hs:sizeLine=16777216:=sizeLine_eq;cases x with
 |str y=>
  obtain⟨t,rfl⟩:=rx;obtain⟨hy,e'⟩:y.length<=sizeLine/\n=y.length:=e;subst e';exact len_str (by omega) ⟨.int _,H,I.tok _,⟨_,rfl⟩,q⟩
 |mZ y=>
  obtain⟨t,rfl⟩:=rx;obtain⟨hy,e'⟩:y.size<=sizeLine/\n=y.size:=e;subst e';exact PySem.W.len_bytes (by omega) ⟨.int _,H,I.tok _,⟨_,rfl⟩,q⟩
 |ref p=>
  cases rx;have e':(∃xs,fK X.K H p xs/\n=xs.length)\/∃xs,iN X.K H p xs/\n=xs.length:=e;rcases e' with⟨xs,hx,e'⟩|⟨xs,hx,e'⟩
  ·subst e';obtain⟨ak,r',pl,hz⟩:=I.list hx;have hlen:=r'.length;exact Calls.call_len_list pl.isList (by simp only[size_toArray];omega) ⟨.int xs.length,H,I.tok _,⟨_,by simp only[size_toArray];rw[hlen]⟩,q⟩
  ·subst e';obtain⟨ak,r',pl,hz⟩:=I.tuple hx;have hlen:=r'.length;exact len_tuple pl (by simp only[size_toArray];omega) ⟨.int xs.length,H,I.tok _,⟨_,by simp only[size_toArray];rw[hlen]⟩,q⟩
 |_=>exact(show False from e).elim
open PySem PySem.Spec PyProof.Rows
structure cF (k:Nat) (A:Around):Prop where
 hd:A.handled=none
 dp:A.depth+3*k+5<recursionLimit
 un:A.units+16*k+200<cLine
variable {j k:Nat}
theorem cF.mono(r:cF k A)(h:j<=k):cF j A:=⟨r.hd,by have:=r.dp;omega,by have:=r.un;omega⟩
theorem cF.deeper(r:cF (k+1) A)(env:Env):cF k (A.deeper env):=
 ⟨r.hd,by have:=r.dp;show A.depth+1+3*k+5<_;omega,by have:=r.un;show A.units+3+16*k+200<_;omega⟩
theorem cF.depth(r:cF k A):A.depth<recursionLimit:=by have:=r.dp;omega
theorem cF.units(r:cF k A):A.units+64<cLine:=by have:=r.un;omega
def Vr:TA:=λ_ H Q=>Q [] H
def RU (ta:TE) (tr:TA):TA:=λσ H Q=>ta σ H λx H1=>tr σ H1 λxs H2=>Q (x::xs) H2
theorem qJ:PA X [] Vr:=λ_ _ _ _ H Q I h=>Calls.spliced_nil ⟨[],H,I,.nil,h⟩
variable {t:TA}
theorem kS(ha:PE X e te)(hr:PA X es t)(hs:starEach (e::es) X.env=(false,eval e X.env)::starEach es X.env:=by rfl):PA X (e::es) (RU te t):=by
 intro pos pins s σ H Q I h;rw[hs];show wpAny _ _ (spliced ((false,eval e X.env)::backTo pos (starEach es X.env))) _ _ s;refine Calls.spliced_cons (cq (ha pins s σ H _ I h) λu s1 ⟨x,H1,I1,r1,q1⟩=>?_);exact cq (hr pos pins s1 σ H1 _ I1 q1) λus s2 ⟨xs,H2,I2,r2,q2⟩=>⟨x::xs,H2,I2,.cons r1 r2,q2⟩
def Vl (t:TA):TE:=λσ H Q=>t σ H λxs H1=>xs.length<=sizeLine/\∀p,H1 p=none->Q (.ref p) (upd H1 p (.tup xs))
def Vs (t:TA):TE:=λσ H Q=>t σ H λxs H1=>xs.length<=sizeLine/\∀p,H1 p=none->Q (.ref p) (upd H1 p (.lst xs))
theorem G0{x1}(h:PA X es t):PE X (.Tuple es x1 pos) (Vl t):=by
 intro pins s σ H Q I hq;refine wpAny_Tuple_spliced (cq (h pos pins s σ H _ I hq) λus s1 ⟨xs,H1,I1,r,z,q⟩=>⟨by rw[<- r.length];exact z,?_⟩);have hf:H1 s1.heap.objs.size=none:=I1.bx.fresh (le_refl _);refine⟨.ref s1.heap.objs.size,upd H1 s1.heap.objs.size (.tup xs),I1.laid (t':=s1.toks) (λb u e=>get?_push_of_some _ e) (le_refl _) ?_,rfl,q _ hf⟩;exact⟨z,us,r,⟨_,get?_push_size _ rfl,rfl,_,rfl⟩⟩
theorem zh(h:PA X es t):PE X (.List es pos) (Vs t):=by
 intro pins s σ H Q I hq;refine wpAny_List_spliced (cq (h pos pins s σ H _ I hq) λus s1 ⟨xs,H1,I1,r,z,q⟩=>⟨by rw[<- r.length];exact z,?_⟩);have hf:H1 s1.heap.objs.size=none:=I1.bx.fresh (le_refl _);refine⟨.ref s1.heap.objs.size,upd H1 s1.heap.objs.size (.lst xs),I1.laid (t':=s1.toks) (λb u e=>get?_push_of_some _ e) (le_refl _) ?_,rfl,q _ hf⟩;exact⟨z,us,0,r,get?_push_size _ rfl⟩
abbrev Sp:=List V->Hp->VK->XK->Prop
abbrev y6:=List Env->Hp->Shared->XK->Value->Shared->Prop
structure EJ (P:Program) (w:World) (K:Frag) (mg:Str->Option Value) (base:Heap) (A:Around) (outer:List Env) (s:Shared) (H:Hp):Prop where
 frames:A.frames=some outer
 mod:Mod K mg base
 bs:∀b o,base.get? b=some o->s.heap.get? b=some o/\H b=none
 xU:base.objs.size<=s.heap.objs.size
 mV:s.heap.FunFrames base outer
 CK:∀b∈lx outer,H b=none
 bx:ij P w H s.heap
 bare:AllBare s.gens
def CE (outer:List Env) (P:Program) (w:World) (H:Hp) (s:Shared) (Q:VK) (u:Value) (s':Shared):Prop:=
 ∃v H',s'.os=s.os/\AllBare s'.gens/\Un (lx outer) [] H H' s.heap s'.heap/\ij P w H' s'.heap/\RelV v u/\Q v H'
def CR (CX:y6) (outer:List Env) (P:Program) (w:World) (H:Hp) (s:Shared) (Q:VK) (E:XK) (r:Result) (s':Shared):Prop:=
 match r with
 | .ok (.ret u)=>CE outer P w H s Q u s'
 | .ok _=>False
 | .error e=>CX outer H s E e s'
structure gJ (P:Program) (w:World) (K:Frag) (mg:Str->Option Value) (base:Heap) (CX:y6) (k:Nat) (f:Addr) (fd:FuncData) (ps:List Str) (sp:Sp):Prop where
 len:∀vs H Q E,sp vs H Q E->vs.length=ps.length
 run:∀(A:Around) (outer:List Env) (s:Shared) (H:Hp) (args:Args) (us:List Value) (vs:List V) (Q:VK) (E:XK),cF k A->EJ P w K mg base A outer s H->BindsTo s fd args (ps.zip us)->Vals vs us->sp vs H Q E->
  codeAny (model P w) A (.call (.ref f) args) (CR CX outer P w H s Q E) s
variable {mg:Str->Option Value} {base:Heap} {CX:y6} {f:Addr} {fd:FuncData} {ps:List Str} {sp:Sp}
theorem gJ.mono(F:gJ P w K mg base CX j f fd ps sp)(h:j<=k):
  gJ P w K mg base CX k f fd ps sp:=⟨F.len,λA outer s H args us vs Q E hr=>F.run A outer s H args us vs Q E (hr.mono h)⟩
theorem gJ.imp{T4:Sp}(F:gJ P w K mg base CX k f fd ps sp)(h:∀vs H Q E,T4 vs H Q E->sp vs H Q E):gJ P w K mg base CX k f fd ps T4:=
 ⟨λvs H Q E q=>F.len vs H Q E (h _ _ _ _ q),λA outer s H args us vs Q E hr he hb hv hs=>F.run A outer s H args us vs Q E hr he hb hv (h _ _ _ _ hs)⟩
variable {s:Shared} in
theorem Inv.We(I:Inv X pins σ H s):EJ X.prog X.w X.K X.mg X.base X.A X.stack s H:=
 ⟨I.ok.frames,I.ok.mod,I.bs,le_trans I.ok.xU I.sz,I.stack,I.vI,I.bx,I.bare⟩
variable {u:Value}
variable {s:Shared} in
theorem Inv.after(I:Inv X pins σ H s)(h:CE X.stack X.prog X.w H s Q u s'):EP X pins σ Q u s':=by
 obtain⟨v,H',os,bare,un,bx,r,q⟩:=h;obtain⟨hh,g,d,t,fU⟩:=s';obtain rfl:fU=s.os:=os;exact⟨v,H',I.call (h':=hh) (g':=g) (d':=d) (t':=t) (ch:=[]) un bx bare (λb z=>absurd z (by simp)),r,q⟩
def Kp (sp:Sp) (xQ:List V) (E:XK) (t:TA):TE:=λσ H Q=>t σ H λvs H1=>sp (vs++xQ) H1 Q E
def Binds (K:Frag) (fd:FuncData) (ps:List Str) (ds:List Value):Prop:=
 ∀(s:Shared) (us:List Value),K.In s.heap->(us++ds).length=ps.length->BindsTo s fd ⟨us,[]⟩ (ps.zip (us++ds))
theorem Binds.all(h:∀us:List Value,us.length=ps.length->bindArgs fd ⟨us,[]⟩=pure (ps.zip us)):Binds K fd ps []:=λs us _ hl=>by
 rw[append_nil]at hl ⊢;exact .of_eq (h us hl)
def Passes (CX:y6) (X:Cx) (E:XK):Prop:=∀(pins:List (Addr×Obj)) (σ:St) (H:Hp) (s:Shared) (e:Value) (s':Shared),Inv X pins σ H s->CX X.stack H s E e s'->X.xe e s'
variable {xQ:List V} {E:XK} {ds:List Value}
theorem Og{σ:St}{s:Shared}{vs:List V}(F:gJ X.prog X.w X.K X.mg X.base CX k f fd ps sp)(hr:cF k X.A)(hb:Binds X.K fd ps ds)(hd:Vals xQ ds)(hx:Passes CX X E)(I:Inv X pins σ H s)(r:Vals vs us)(h:sp (vs++xQ) H Q E):wpAny (model X.prog X.w) X.A (call (.ref f) us) (EP X pins σ Q) X.xe s:=by
 have r2:Vals (vs++xQ) (us++ds):=r.append hd;have hl:(us++ds).length=ps.length:=by rw[<- r2.length];exact F.len _ _ _ _ h
 refine wpAny_call (codeAny_mono (F.run X.A X.stack s H ⟨us,[]⟩ (us++ds) (vs++xQ) Q E hr I.We (hb s us I.pT hl) r2 h) λr s' hq=>?_);cases r with
 |error e=>exact hx pins σ H s e s' I hq
 |ok fl=>
  cases fl with
  |ret u=>exact I.after hq
  |next=>exact False.elim hq
  |brk=>exact False.elim hq
  |cont=>exact False.elim hq
variable {p:Pos}
theorem rX(F:gJ X.prog X.w X.K X.mg X.base CX k f fd ps sp)(hr:cF k X.A)(hg:Gl X x)(hm:X.mg x=some (.ref f))(hk:keepIn X.K (.ref f)=true)(hb:Binds X.K fd ps ds)(hd:Vals xQ ds)(hx:Passes CX X E)(ha:PA X (e::es) t)(jx:(x==("__debug__" : Str))=false:=by decide)(he:starEach (e::es) X.env=(false,eval e X.env)::starEach es X.env:=by rfl)(dO:(backTo pos (starEach es X.env)).any (·.1)=false:=by rfl):
  PE X (.Call (.Name x p) (e::es) [] pos) (Kp sp xQ E t):=by
 intro pins s σ H Q I h;refine wpAny_Call_Name_kw (Cs I hg hm ?_ jx);refine PySem.W.callWith_K (h₀:=X.base) I.ok.mod.uO hk (cq (ha pos pins s σ H _ I h) λus s1 ⟨vs,H1,I1,r,q⟩=>⟨I1.pT,?_⟩) he dO;exact Og F hr hb hd hx I1 r q
structure gi (N P:List Str) (sc:Scope):Prop where
 kind:sc.kind=.function
 co:sc.isCoroutine=false
 gen:sc.isGenerator=false
 nd:N.Nodup
 pre:N.take P.length=P
 par:∀x∈P,sc.names.lookup x=some .local\/sc.names.lookup x=some .cell
 OW:∀y∈sc.names,y.2≠.free
theorem xV{kindOf:Str->Option NameKind}{x:Str}:∀{binds:List (Str×Value)} {m:Str->Option Value},(∀v,(x,v)∉binds)->bindL kindOf binds m x=m x
 |[],_,_=>rfl
 |(n,v)::r,m,h=>by
  unfold bindL;rw[xV λw hw=>h w (mem_cons_of_mem _ hw)];split
  ·have:x≠n:=by rintro rfl;exact h v mem_cons_self
   simp[this]
  ·rfl
theorem xX{kindOf:Str->Option NameKind}{x:Str}:∀{binds:List (Str×Value)} {m:Str->Option Value},(∀v,(x,v)∉binds)->bindC kindOf binds m x=m x
 |[],_,_=>rfl
 |(n,v)::r,m,h=>by
  unfold bindC;rw[xX λw hw=>h w (mem_cons_of_mem _ hw)];split
  ·rfl
  ·have:x≠n:=by rintro rfl;exact h v mem_cons_self
   simp[this]
theorem xW{kindOf:Str->Option NameKind}{x:Str}{v:Value}:∀{P:List Str} {vs:List Value} {i:Nat} {m:Str->Option Value},P.Nodup->P[i]?=some x->vs[i]?=some v->kindOf x=some .local->
  bindL kindOf (P.zip vs) m x=some v
 |[],_,_,_,_,h,_,_=>by simp at h
 |_::_,[],_,_,_,_,h,_=>by simp at h
 |p::P,w::vs,0,m,nd,h1,h2,hk=>by
  simp at h1 h2;subst h1;subst h2;show bindL kindOf ((p,w)::P.zip vs) m p=_;unfold bindL;rw[xV λv hv=>(nodup_cons.mp nd).1 (of_mem_zip hv).1,if_pos hk];simp
 |p::P,w::vs,i+1,m,nd,h1,h2,hk=>by
  show bindL kindOf ((p,w)::P.zip vs) m x=_;unfold bindL;exact xW (i:=i) (nodup_cons.mp nd).2 (by simpa using h1) (by simpa using h2) hk
theorem xY{kindOf:Str->Option NameKind}{x:Str}{v:Value}:∀{P:List Str} {vs:List Value} {i:Nat} {m:Str->Option Value},P.Nodup->P[i]?=some x->vs[i]?=some v->kindOf x≠some .local->
  bindC kindOf (P.zip vs) m x=some v
 |[],_,_,_,_,h,_,_=>by simp at h
 |_::_,[],_,_,_,_,h,_=>by simp at h
 |p::P,w::vs,0,m,nd,h1,h2,hk=>by
  simp at h1 h2;subst h1;subst h2;show bindC kindOf ((p,w)::P.zip vs) m p=_;unfold bindC;rw[xX λv hv=>(nodup_cons.mp nd).1 (of_mem_zip hv).1,if_neg hk];simp
 |p::P,w::vs,i+1,m,nd,h1,h2,hk=>by
  show bindC kindOf ((p,w)::P.zip vs) m x=_;unfold bindC;exact xY (i:=i) (nodup_cons.mp nd).2 (by simpa using h1) (by simpa using h2) hk
def start (N:List Str) (vs:List V):St:=vs.map some++List.replicate (N.length-vs.length) none
def jM (CX:y6) (P:Program) (w:World) (K:Frag) (mg:Str->Option Value) (base:Heap) (N:List Str) (qual:Str) (scope:Scope) (f:Addr) (cd:Value) (A:Around) (outer:List Env) (s:Shared) (H:Hp) (E:XK):Cx where
 prog:=P
 w:=w
 K:=K
 mg:=mg
 base:=base
 A:=A.deeper (envOfC qual scope s.heap.objs.size f cd)
 N:=N
 aL:=s
 ah:=H
 env:=envOfC qual scope s.heap.objs.size f cd
 outer:=outer
 stack:=envOfC qual scope s.heap.objs.size f cd::outer
 ex:=[]
 calm:=true
 fn:=λ_=>true
 pn:=[]
 xe:=λe s'=>wpAny (model P w) (A.deeper (envOfC qual scope s.heap.objs.size f cd)) (leaving (envOfC qual scope s.heap.objs.size f cd) e) (λ_ oq=>CX outer H s E e oq) (λe' oq=>CX outer H s E e' oq) s'
variable {n:Nat}
theorem AG{sc:Scope}(h:sc.names.lookup x=some .cell):∃c,(cellsFrom n sc.names []).lookup x=some c:=by
 have q:=PySem.W.cellsFrom_some sc.names n [] (.inl h);exact Option.isSome_iff_exists.mp q
variable {qual:Str} {scope:Scope}
theorem GH{cd:Value}{outer:List Env}{s s1:Shared}{vs:List V}(S:gi N ps scope)(hd:A.handled=none)(e0:EJ P w K mg base A outer s H)(hl:vs.length=ps.length)(r:Vals vs us)(x:InCallC s s.heap.objs.size (bindL (envOfC qual scope s.heap.objs.size f cd).kindOf (ps.zip us) λ_=>none) (cellsFrom (s.heap.objs.size+1) scope.names []) (bindC (envOfC qual scope s.heap.objs.size f cd).kindOf (ps.zip us) λ_=>none) s1):
  Inv (jM CX P w K mg base N qual scope f cd A outer s H E) [] (start N vs) H s1:=by
 have dO:ps.length<=N.length:=by have:=congrArg List.length S.pre;rw[length_take]at this;omega
 obtain⟨h1,tk,rfl,hk⟩:=x.done;have Gr:∀b:Addr,b∉(jM CX P w K mg base N qual scope f cd A outer s H E).ex:=λb z=>absurd (show b∈([]:List Addr)from z) (by simp);refine⟨⟨e0.mod,S.kind,rfl,rfl,le_refl _,λy z c h1 h2=>?_,λy hy=>?_,λy c _ h=>?_,λ_=>hd,Around.frames_deeper e0.frames,.inr ⟨rfl,rfl⟩,λb z=>absurd z (Gr b),e0.bs,e0.xU,λb _ _=>Gr b,λb z=>absurd z (Gr b),e0.mV,e0.CK⟩,
  rfl,e0.bare,Un.kept hk,⟨_,x.toInCall.ns,λi y v h1 h2 h3=>?_⟩,λy c h=>⟨_,x.cell y c h⟩,e0.bx.fresh (le_refl _),λy c h=>?_,λp hp=>absurd (show p∈([]:List (Addr×Obj))from hp) (by simp),e0.bx.kept hk,?_⟩
 ·exact name_of_addr x.apart (PySem.mem_of_lookup h1) (PySem.mem_of_lookup h2)
 ·have hy:scope.names.lookup y=some .cell\/scope.names.lookup y=some .free:=hy;rcases hy with hy|hy
  ·exact AG hy
  ·exact absurd rfl (S.OW _ (PySem.mem_of_lookup hy))
 ·exact Nat.le_of_lt (x.above y c (PySem.mem_of_lookup h))
 ·have hi:i<vs.length:=by
   unfold start at h2;by_cases hi:i<vs.length
   ·exact hi
   ·rw[getElem?_append_right (by simpa using hi)]at h2;rw[getElem?_replicate]at h2;split at h2<;>cases h2
  have ha:vs[i]?=some v:=by
   unfold start at h2;rw[getElem?_append_left (by simpa using hi),getElem?_map]at h2;cases e:vs[i]? with
   |none=>rw[e]at h2;cases h2
   |some a=>rw[e]at h2;cases h2;rfl
  obtain⟨u,hu,rv⟩:=r.get ha;have hp:ps[i]?=some y:=by
   rw[<- S.pre,List.getElem?_take_of_lt (by omega)];exact h1
  have Tg:ps.Nodup:=by rw[<- S.pre];exact S.nd.sublist (List.take_sublist _ _)
  refine⟨u,rv,?_⟩;rcases S.par y (mem_of_getElem? hp)with k|k
  ·exact .inl ⟨k,xW Tg hp hu k⟩
  ·obtain⟨c,e⟩:=AG (n:=s.heap.objs.size+1) k;refine .inr ⟨.inl k,c,e,?_⟩;have q:=x.cell y c e;rw[xY Tg hp hu (by show scope.names.lookup y≠_;rw[k];decide)]at q;exact q
 ·exact e0.bx.fresh (Nat.le_of_lt (x.above y c (PySem.mem_of_lookup h)))
 ·unfold start;show _=N.length;rw[length_append,length_map,length_replicate];omega
variable {doc pm bF ct oc:Value} {an od:Option Addr} {sJ:Array (Option Value)}
theorem SE{name:Str}{params:Arguments}{dV kV:Value}(lk:K.lookup f=some ⟨oc,od,.func (fnOf name qual params body scope dV kV doc pm an bF ct),sJ⟩)(gB:codeIn K bF qual=true)(S:gi N ps scope)(len:∀vs H Q E,sp vs H Q E->vs.length=ps.length)(hbody:∀(A:Around) (outer:List Env) (s:Shared) (H:Hp) (vs:List V) (Q:VK) (E:XK),cF k (A.deeper (envOfC qual scope s.heap.objs.size f bF))->sp vs H Q E->
   ∃t,lH (jM CX P w K mg base N qual scope f bF A outer s H E) body t/\t {nx:=λ_ H'=>Q .bO H',rt:=Q} (start N vs) H):
  gJ P w K mg base CX (k+1) f (fnOf name qual params body scope dV kV doc pm an bF ct) ps sp:=by
 refine⟨len,λA outer s H args us vs Q E hr e0 hb r lQ=>?_⟩;have hl:=len _ _ _ _ lQ;have KX:K.In s.heap:=e0.mod.uO.keeps λb o e=>(e0.bs b o e).1;have lim:s.heap.NoLimit:=e0.mod.nolimit.keeps λb o e=>(e0.bs b o e).1;have Ss:∀y∈ps.zip us,scope.names.lookup y.1=some .local\/(scope.names.lookup y.1=some .cell/\((cellsFrom (s.heap.objs.size+1) scope.names []).lookup y.1).isSome=true):=fun⟨n,v⟩ hy=>by
  rcases S.par n (of_mem_zip hy).1 with q|q
  ·exact .inl q
  ·exact .inr ⟨q,PySem.W.cellsFrom_some _ _ _ (.inl q)⟩
 refine codeAny_call_function hr.depth (KX _ _ lk) rfl S.co S.gen rfl (PySem.W.codeRec_of KX gB) (hb _ _ _ _ ?_);refine wpAny_newFunctionEnv_cells S.kind Ss λenv he s1 x=>?_;subst he;refine⟨lim.keeps x.toInCall.keep,codeAny_func ?_⟩;obtain⟨t,ht,hq⟩:=hbody A outer s H vs Q E (hr.deeper _) lQ;have I:Inv (jM CX P w K mg base N qual scope f bF A outer s H E) [] (start N vs) H s1:=GH S hr.hd e0 hl r x;refine wpAny_mono (ht [] s1 (start N vs) H _ I hq) (λfl s' hs=>?_) λe s' hs=>hs;have fin:∀{bH:St} {H':Hp} {v:V} {u:Value},Inv (jM CX P w K mg base N qual scope f bF A outer s H E) [] bH H' s'->RelV v u->Q v H'->CE outer P w H s Q u s':=
  fun{bH H' v u} J rv q=>⟨v,H',J.os,J.bare,J.base,J.bx,rv,q⟩
 cases fl with
 |ret u=>
  obtain⟨v,bH,H',J,rv,q⟩:=hs;exact fin J rv q
 |next=>
  obtain⟨bH,H',J,q⟩:=hs;exact fin (v:=V.bO) (u:=Value.none) J rfl q
 |brk=>
  obtain⟨_,_,_,q⟩:=hs;exact False.elim q
 |cont=>
  obtain⟨_,_,_,q⟩:=hs;exact False.elim q
open PySem PySem.Spec PyProof.Rows
variable {r:List V->Hp->VK->Prop}
def Kq (r:List V->Hp->VK->Prop) (t:TA):TE:=λσ H Q=>t σ H λvs H1=>r vs H1 Q
variable {id:String}
theorem zi(hc:kH X (.builtin id) r)(hg:Gl X x)(hm:X.mg x=none)(hv:bootBuiltins x=some (.builtin id))(ha:PA X (e::es) t)(hn:x≠"__name__":=by decide)(jx:(x==("__debug__" : Str))=false:=by decide)(he:starEach (e::es) X.env=(false,eval e X.env)::starEach es X.env:=by rfl)(dO:(backTo pos (starEach es X.env)).any (·.1)=false:=by rfl):PE X (.Call (.Name x p) (e::es) [] pos) (Kq r t):=by
 intro pins s σ H Q I h;refine wpAny_Call_Name_kw (mN I hg hm hv ?_ hn jx);exact PyProof.Rows.callWith_builtin1 (cq (ha pos pins s σ H _ I h) λus s1 ⟨vs,H1,I1,r1,q1⟩=>hc pins s1 σ H1 vs us Q I1 r1 q1) he dO
variable {T:String}
theorem nA(hc:kH X (.type T) r)(hg:Gl X x)(hm:X.mg x=none)(hv:bootBuiltins x=some (.type T))(ha:PA X (e::es) t)(hn:x≠"__name__":=by decide)(jx:(x==("__debug__" : Str))=false:=by decide)(he:starEach (e::es) X.env=(false,eval e X.env)::starEach es X.env:=by rfl)(dO:(backTo pos (starEach es X.env)).any (·.1)=false:=by rfl):PE X (.Call (.Name x p) (e::es) [] pos) (Kq r t):=by
 intro pins s σ H Q I h;refine wpAny_Call_Name_kw (mN I hg hm hv ?_ hn jx);exact PyProof.Rows.callWith_type1 (cq (ha pos pins s σ H _ I h) λus s1 ⟨vs,H1,I1,r1,q1⟩=>hc pins s1 σ H1 vs us Q I1 r1 q1) he dO
end
end L2
namespace HT
noncomputable section
open PySem PyProof.Rows
def cc (n d:Nat):Option Int->Nat
 |none=>d
 |some v=>if v<0 then(v+(n:Int)).toNat else min v.toNat n
theorem oY(n d:Nat):cc n d none=d:=rfl
theorem oo(n d k:Nat):cc n d (some (k:Int))=min k n:=by
 show(if(k:Int)<0 then((k:Int)+(n:Int)).toNat else min (k:Int).toNat n)=min k n;rw[if_neg (by omega),toNat_natCast]
theorem Oc(n d:Nat)(hd:d<=n)(o:Option Int):cc n d o<=n:=by
 cases o with
 |none=>exact hd
 |some v=>
  show(if v<0 then(v+(n:Int)).toNat else min v.toNat n)<=n;by_cases hv:v<0
  ·rw[if_pos hv];omega
  ·rw[if_neg hv];exact Nat.min_le_right _ _
theorem Dj(v:Int)(n d:Nat):(if v<0 then max (v+(n:Int)) 0 else min v (n:Int))=((cc n d (some v):Nat):Int):=by
 show(if v<0 then max (v+(n:Int)) 0 else min v (n:Int))=(((if v<0 then(v+(n:Int)).toNat else min v.toNat n):Nat):Int);by_cases hv:v<0
 ·simp only[if_pos hv];omega
 ·simp only[if_neg hv];omega
theorem Ew(lo hi:Option Int)(n:Nat):Builtin.Slice.sliceAdjust lo hi 1 (n:Int)=(((cc n 0 lo:Nat):Int),((cc n n hi:Nat):Int)):=by
 have h1:¬((1:Int)<0):=by omega
 unfold Builtin.Slice.sliceAdjust;simp only[h1,if_false];refine Prod.ext ?_ ?_
 ·cases lo with
  |none=>rfl
  |some v=>exact Dj v n 0
 ·cases hi with
  |none=>rfl
  |some v=>exact Dj v n n
theorem DY(i j:Nat):Builtin.Slice.slicePlaces (i:Int) (j:Int) 1=j-i:=by
 unfold Builtin.Slice.slicePlaces;have h1:(1:Int)>0:=by omega
 simp only[h1,if_true,Int.ediv_one];split<;>omega
variable {E:Value->Shared->Prop} {prog:Program} {A:Around} {w:World} {v:Value}
variable {s:Shared} in
theorem uu{o:Option Int}{Q:Option Int->Shared->Prop}(p:IsPart v o)(h:Q o s):wpAny (model prog w) A (Builtin.Slice.slicePartIndex v) Q E s:=by
 cases p with
 |none=>exact slicePart_none h
 |int i t=>exact slicePart_int h
variable {n:Nat}
variable {s:Shared} in
theorem tf{sl:Addr}{vl vu:Value}{lo hi:Option Int}{Q:Int×Int×Nat->Shared->Prop}(hs:s.heap.IsSliceOf sl vl vu .none)(pl:IsPart vl lo)(pu:IsPart vu hi)(h:Q (((cc n 0 lo:Nat):Int),1,cc n n hi-cc n 0 lo) s):wpAny (model prog w) A (Builtin.Slice.sliceApplied (.ref sl) (pure (n:Int))) Q E s:=by
 obtain⟨os,fW,Li,Lh⟩:=id hs;unfold Builtin.Slice.sliceApplied Builtin.Slice.sliceFields;refine wpAny_bind (wpAny_bind (wpAny_field fW Lh (x:=vl) rfl (wpAny_bind (wpAny_field fW Lh (x:=vu) rfl (wpAny_bind (wpAny_field fW Lh (x:=.none) rfl (wpAny_pure ?_)))))));refine wpAny_bind (slicePart_none ?_);show wpAny _ _ (if((1:Int)==0)=true then _ else _) _ _ s;rw[if_neg (by decide)];refine wpAny_bind (uu pl (wpAny_bind (uu pu (wpAny_bind (wpAny_pure ?_)))));show wpAny _ _ (match Builtin.Slice.sliceAdjust lo hi 1 (n:Int)with|(lo,hi)=>pure (lo,(1:Int),Builtin.Slice.slicePlaces lo hi 1)) _ _ s
 rw[Ew lo hi n];show wpAny _ _ (pure (((cc n 0 lo:Nat):Int),(1:Int),Builtin.Slice.slicePlaces ((cc n 0 lo:Nat):Int) ((cc n n hi:Nat):Int) 1)) _ _ s;rw[DY];exact wpAny_pure h
theorem IZ(xs:Array Value)(i k:Nat):((List.range k).filterMap fun(m:Nat)=>xs[((i:Int)+(m:Int)*1).toNat]?).toArray=((xs.toList.drop i).take k).toArray:=by
 have e:(fun(m:Nat)=>xs[((i:Int)+(m:Int)*1).toNat]?)=λm=>xs[i+m]?:=by
  funext m
  have:((i:Int)+(m:Int)*1).toNat=i+m:=by omega
  rw[this]
 rw[e];have:=pick_run xs i k;rw[List.filterMap_map]at this;have e2:((λx=>xs[x]?) ∘ λx=>i+x)=λm=>xs[i+m]?:=rfl;rw[e2]at this;rw[this]
variable {Q:Value->Shared->Prop}
variable {s:Shared} in
theorem sF{t sl:Addr}{items:Array Value}{vl vu:Value}{lo hi:Option Int}(ht:IsTup s.heap t items)(hs:s.heap.IsSliceOf sl vl vu .none)(pl:IsPart vl lo)(pu:IsPart vu hi)(hw:¬(cc items.size 0 lo=0/\cc items.size items.size hi=items.size))(h:Q (.ref s.heap.objs.size) {s with heap:=s.heap.push {cls:=.type "tuple",data:=.seq ((items.toList.drop (cc items.size 0 lo)).take (cc items.size items.size hi-cc items.size 0 lo)).toArray}})(hsz:items.size<=sizeLine):wpAny (model prog w) A (getItem (.ref t) (.ref sl)) Q E s:=by
 have yj:sizeOk (.seq ((items.toList.drop (cc items.size 0 lo)).take (cc items.size items.size hi-cc items.size 0 lo)).toArray):=by
  show((items.toList.drop (cc items.size 0 lo)).take (cc items.size items.size hi-cc items.size 0 lo)).toArray.size<=sizeLine;rw[size_toArray,length_take,length_drop,length_toList];omega
 have hj:cc items.size items.size hi<=items.size:=Oc _ _ (le_refl _) hi;obtain⟨os,fW,Li,Lh⟩:=id hs;have XB:s.TypeIs (.ref sl) "slice":=⟨os,fW,Li⟩;unfold getItem;try with_reducible refine wpAny_holding ?_
 first|refine wpAny_bind (wpAny_pure ?_)|skip
 refine wpAny_bind (wpAny_sequenceKey ht.typeIs (by decide) ?_);refine wpAny_bind (wpAny_callSpecial?_slot (name:=Str.ofString "__getitem__") ht.typeIs PyProof.Rows.slot_tuple_getitem
  (wpAny_call_entry PyProof.Rows.slot_tuple_getitem ht.typeIs entry_tuple_getitem ?_ (args_tuple_getitem _ _)))
 show wpAny _ _ (Builtin.Tuple.tupleItemsOf (.ref t) >>= _) _ _ s;refine wpAny_bind (tupleItemsOf_ ht ?_);refine wpAny_bind (wpAny_typeOf XB ?_);rw[if_pos (by decide)];refine wpAny_bind (tf hs pl pu ?_);have qT:¬((((cc items.size 0 lo:Nat):Int)==0&&(1:Int)==1&&(cc items.size items.size hi-cc items.size 0 lo)==items.size)=true):=by
  intro q;rw[and_eq_true,and_eq_true]at q;have q1:((cc items.size 0 lo:Nat):Int)=0:=eq_of_beq q.1.1;have q2:cc items.size items.size hi-cc items.size 0 lo=items.size:=eq_of_beq q.2;exact hw ⟨by omega,by omega⟩
 show wpAny _ _ (if(((cc items.size 0 lo:Nat):Int)==0&&(1:Int)==1&&(cc items.size items.size hi-cc items.size 0 lo)==items.size)=true then _ else _) _ _ s;rw[if_neg qT,IZ];first
  |exact wpAny_bind (m:=Builtin.Tuple.tupleExact _) (wpAny_newObj_type (wpAny_pure ⟨_,rfl,wpAny_pure h⟩) yj)
  |exact wpAny_bind (m:=Builtin.Tuple.tupleExact _) (wpAny_newObj_type (wpAny_bind (wpAny_pure (wpAny_pure ⟨_,rfl,wpAny_pure h⟩))) yj)
  |exact wpAny_bind (wpAny_bind (m:=Builtin.Tuple.tupleExact _) (wpAny_newObj_type (wpAny_pure (wpAny_pure ⟨_,rfl,wpAny_pure h⟩)) yj))
  |exact wpAny_bind (wpAny_bind (m:=Builtin.Tuple.tupleExact _) (wpAny_newObj_type (wpAny_pure ⟨_,rfl,wpAny_pure h⟩) yj))
end
end HT
namespace L2
noncomputable section
open PySem PySem.Spec PyProof.Rows
abbrev TO:=St->Hp->(Option Int->Hp->Prop)->Prop
def PO (X:Cx) (e:Option Expr) (t:TO):Prop:=
 ∀(pins:List (Addr×Obj)) (s:Shared) (σ:St) (H:Hp) (Q:Option Int->Hp->Prop),Inv X pins σ H s->t σ H Q->
  wpAny (model X.prog X.w) X.A (evalPart e X.env) (λu s'=>∃o H',Inv X pins σ H' s'/\IsPart u o/\Q o H') X.xe s
def M7:TO:=λ_ H Q=>Q none H
def RO (t:TE):TO:=λσ H Q=>t σ H λx H1=>∃i,x=.int i/\Q (some i) H1
variable {X:Cx}
theorem Mw:PO X none M7:=by
 intro pins s σ H Q I h;rw[evalPart_none];exact wpAny_pure ⟨none,H,I,.none,h⟩
variable {e:Expr} {te:TE}
theorem Mv(h:PE X e te):PO X (some e) (RO te):=by
 intro pins s σ H Q I hw;rw[evalPart_some];refine cq (h pins s σ H _ I hw) λu s1 ⟨x,H1,I1,r1,q1⟩=>?_;obtain⟨i,rfl,q⟩:=q1;obtain⟨t,rfl⟩:=r1;exact⟨some i,H1,I1,.int i t,q⟩
variable {hi lo:Option Expr}
def AV (X:Cx) (r:V->Option Int->Option Int->Hp->VK->Prop):Prop:=
 ∀(pins:List (Addr×Obj)) (s:Shared) (σ:St) (H:Hp) (x:V) (v vl vu:Value) (lo hi:Option Int) (sl:Addr) (Q:VK),Inv X pins σ H s->RelV x v->s.heap.IsSliceOf sl vl vu .none->IsPart vl lo->IsPart vu hi->r x lo hi H Q->
  ∃T id,typeLookup (.type T) "__getitem__"=pure (some (.builtin id))/\s.TypeIs v T/\wpAny (model X.prog X.w) X.A (getItem v (.ref sl)) (EP X pins σ Q) X.xe s
theorem AV.or{r r':V->Option Int->Option Int->Hp->VK->Prop}(h:AV X r)(h':AV X r'):AV X (λx lo hi H Q=>r x lo hi H Q\/r' x lo hi H Q):=by
 intro pins s σ H x v vl vu lo hi sl Q I rx hs pl pu q;rcases q with q|q
 ·exact h pins s σ H x v vl vu lo hi sl Q I rx hs pl pu q
 ·exact h' pins s σ H x v vl vu lo hi sl Q I rx hs pl pu q
variable {tl th:TO}
def WA (r:V->Option Int->Option Int->Hp->VK->Prop) (te:TE) (tl th:TO):TE:=λσ H Q=>te σ H λx H1=>tl σ H1 λl H2=>th σ H2 λu H3=>r x l u H3 Q
variable {pos p2:Pos}
theorem J1{r:V->Option Int->Option Int->Hp->VK->Prop}(hr:AV X r)(he:PE X e te)(hl:PO X lo tl)(hu:PO X hi th):PE X (.Subscript e (.Slice lo hi none p2) pos) (WA r te tl th):=by
 intro pins s σ H Q I h;refine Subscript_ (cq (he pins s σ H _ I h) λv s1 ⟨x,H1,I1,r1,q1⟩=>?_);refine wpAny_Slice (cq (hl pins s1 σ H1 _ I1 q1) λvl s2 ⟨l,H2,I2,pl,q2⟩=>cq (hu pins s2 σ H2 _ I2 q2) λvu s3 ⟨u,H3,I3,pu,q3⟩=>?_);rw[evalPart_none];refine wpAny_pure ?_;have I4:Inv X pins σ H3 {s3 with heap:=s3.heap.push {cls:=.type "slice",data:=.fields #[vl,vu,.none]}}:=I3.kept (t':=s3.toks) λb ob q=>get?_push_of_some _ q;obtain⟨T,id,hT,ht,hg⟩:=hr pins {s3 with heap:=s3.heap.push {cls:=.type "slice",data:=.fields #[vl,vu,.none]}} σ H3 x v vl vu l u s3.heap.objs.size Q I4 r1 (Heap.IsSliceOf.new ..) pl pu q3;show wpAny (model X.prog X.w) X.A (subscriptTail e (.Slice lo hi none p2) v (.ref s3.heap.objs.size)) (EP X pins σ Q) X.xe {s3 with heap:=s3.heap.push {cls:=.type "slice",data:=.fields #[vl,vu,.none]}};exact tail_any (ops:=[.ref s3.heap.objs.size,v]) ht hT hg (by with_unfolding_all rfl)
def rj (xs:List V) (lo hi:Option Int):List V:=(xs.drop (HT.cc xs.length 0 lo)).take (HT.cc xs.length xs.length hi-HT.cc xs.length 0 lo)
theorem sT(xs:List V)(lo hi:Option Int):(rj xs lo hi).length<=xs.length:=by
 unfold rj;rw[length_take,length_drop];omega
def Vy (K:Frag):V->Option Int->Option Int->Hp->VK->Prop:=λx lo hi H Q=>∃a xs,x=.ref a/\iN K H a xs/\
 ¬(HT.cc xs.length 0 lo=0/\HT.cc xs.length xs.length hi=xs.length)/\∀p,H p=none->Q (.ref p) (upd H p (.tup (rj xs lo hi)))
theorem O6:AV X (Vy X.K):=by
 intro pins s σ H x v vl vu lo hi sl Q I rx hs pl pu h;obtain⟨a,xs,rfl,hx,hw,q⟩:=h;cases rx;obtain⟨ak,r,ht,hz⟩:=I.tuple hx;have hlen:ak.toArray.size=xs.length:=by rw[size_toArray];exact r.length.symm
 refine⟨"tuple",_,PyProof.Rows.slot_tuple_getitem.lookup,ht.typeIs,?_⟩;refine HT.sF ht hs pl pu (by rw[hlen];exact hw) ?_ (by rw[hlen];exact hz);rw[hlen];refine⟨.ref s.heap.objs.size,_,I.laid (t':=s.toks) (o:=.tup (rj xs lo hi)) (λb ob q=>get?_push_of_some _ q) (le_refl _) ?_,rfl,q _ (I.bx.fresh (le_refl _))⟩;exact⟨le_trans (sT xs lo hi) hz,_,(r.drop (HT.cc xs.length 0 lo)).take (HT.cc xs.length xs.length hi-HT.cc xs.length 0 lo),IsTup.new _ _⟩
variable {xs:List V}
theorem Vals.mn{us:List Value}(r:Vals xs us):us=[]↔xs=[]:=by
 cases r with
 |nil=>simp
 |cons _ _=>simp
open PySem PySem.Spec PyProof.Rows
def mO (n:Nat) (i:Int):Option Nat:=if 0<=i then(if i<n then some i.toNat else none)else if -(n:Int)<=i then some (i+n).toNat else none
def gD {α:Type} (xs:List α) (i:Int):Option α:=(mO xs.length i).bind λj=>xs[j]?
variable {n j:Nat}
theorem Cu{i:Int}(h:mO n i=some j):seqIndex? i n=some j/\j<n/\-(n:Int)<=i/\i<n:=by
 unfold mO at h;by_cases h0:0<=i
 ·rw[if_pos h0]at h;by_cases h1:i<n
  ·rw[if_pos h1]at h;have e:i.toNat=j:=Option.some.inj h;exact⟨by rw[seqIndex_of h0 h1,e],by omega,by omega,h1⟩
  ·rw[if_neg h1]at h;cases h
 ·rw[if_neg h0]at h;by_cases h1: -(n:Int)<=i
  ·rw[if_pos h1]at h;have e:(i+n).toNat=j:=Option.some.inj h;exact⟨by rw[seqIndex_neg (by omega) h1,e],by omega,h1,by omega⟩
  ·rw[if_neg h1]at h;cases h
variable {α:Type}
theorem Dp{xs:List α}{i:Int}{v:α}(h:gD xs i=some v):∃j,seqIndex? i xs.length=some j/\xs[j]?=some v/\j<xs.length/\-(xs.length:Int)<=i/\i<xs.length:=by
 unfold gD at h;cases e:mO xs.length i with
 |none=>rw[e]at h;cases h
 |some j=>
  rw[e]at h;obtain⟨h1,h2,h3,h4⟩:=Cu e;exact⟨j,h1,h,h2,h3,h4⟩
def wK (b:Expr):Prop:=∀o i,subscripted b false o i=operate [o,i] (getItem o i)
def AY (X:Cx) (r:R2):Prop:=
 ∀(value slice:Expr) (pins:List (Addr×Obj)) (s:Shared) (σ:St) (H:Hp) (x y:V) (v u:Value) (Q:VK),Inv X pins σ H s->RelV x v->RelV y u->r x y H Q->
  subscripted slice false v u=operate [v,u] (getItem v u)->wpAny (model X.prog X.w) X.A (subscriptTail value slice v u) (EP X pins σ Q) X.xe s
def YN (X:Cx) (id:String) (r:V->List V->Hp->VK->Prop):Prop:=
 ∀(pins:List (Addr×Obj)) (s:Shared) (σ:St) (H:Hp) (x:V) (xs:List V) (v:Value) (us:List Value) (Q:VK),Inv X pins σ H s->RelV x v->Vals xs us->r x xs H Q->
  wpAny (model X.prog X.w) X.A (call (.builtin id) (v::us)) (EP X pins σ Q) X.xe s
theorem AY.or{r r':R2}(h:AY X r)(h':AY X r'):AY X (λx y H Q=>r x y H Q\/r' x y H Q):=by
 intro value slice pins s σ H x y v u Q I rx ry q hs;rcases q with q|q
 ·exact h value slice pins s σ H x y v u Q I rx ry q hs
 ·exact h' value slice pins s σ H x y v u Q I rx ry q hs
variable {tb ta:TE} {a b:Expr}
theorem KI{r:R2}(hr:AY X r)(ha:PE X a ta)(hb:PE X b tb)(hs:wK b):PE X (.Subscript a b pos) (BG r ta tb):=by
 intro pins s σ H Q I h;exact Subscript_ (JY ha hb I h λv u s2 x y H2 I2 rx ry q=>hr a b pins s2 σ H2 x y v u Q I2 rx ry q (hs _ _))
def Ov (K:Frag):R2:=λx y H Q=>∃p xs i v,x=.ref p/\y=.int i/\fK K H p xs/\gD xs i=some v/\Q v H
def Ou (K:Frag):R2:=λx y H Q=>∃p xs i v,x=.ref p/\y=.int i/\iN K H p xs/\gD xs i=some v/\Q v H
theorem Ct:AY X (Ov X.K):=by
 intro value slice pins s σ H x y v u Q I rx ry h hs;obtain⟨p,xs,i,z,rfl,rfl,hq,he,q⟩:=h;cases rx;obtain⟨t,rfl⟩:=ry;obtain⟨ak,r,pl,hz⟩:=I.list hq;obtain⟨j,h1,h2,h3,h4,h5⟩:=Dp he;obtain⟨w,ew,qv⟩:=r.get h2;have hl:=r.length;have hn:=qN;have fin:EP X pins σ Q w s:=⟨z,H,I,qv,q⟩;by_cases h0:0<=i
 ·have hj:i.toNat=j:=by
   rw[seqIndex_of h0 h5]at h1;exact Option.some.inj h1
  exact item_listR pl.isList h0 (by omega) (by rw[hj];simpa using ew) fin hs
 ·have hj:(i+(ak.toArray.size:Int)).toNat=j:=by
   rw[seqIndex_neg (by omega) h4]at h1;rw[size_toArray,<- hl];exact Option.some.inj h1
  exact subscriptTail_builtinR (x:=w) pl.isList.typeIs slot_list_getitem.lookup
   (wpAny_getItem_list_neg (Q:=λr s'=>r=w/\EP X pins σ Q r s') pl.isList (by omega) (by rw[size_toArray]<;>omega) (by omega) (by rw[hj];simpa using ew) ⟨rfl,fin⟩) hs
theorem GG:AY X (Ou X.K):=by
 intro value slice pins s σ H x y v u Q I rx ry h hs;obtain⟨p,xs,i,z,rfl,rfl,hq,he,q⟩:=h;cases rx;obtain⟨t,rfl⟩:=ry;obtain⟨ak,r,pl,hz⟩:=I.tuple hq;obtain⟨j,h1,h2,h3,h4,h5⟩:=Dp he;obtain⟨w,ew,qv⟩:=r.get h2;have hl:=r.length;have hn:=qN;have fin:EP X pins σ Q w s:=⟨z,H,I,qv,q⟩;exact subscriptTail_builtinR (x:=w) pl.typeIs slot_tuple_getitem.lookup
  (getItem_tuple (j:=j) (Q:=λr s'=>r=w/\EP X pins σ Q r s') pl (by omega) (by omega) (by rw[size_toArray,<- hl];exact h1) (by simpa using ew) ⟨rfl,fin⟩) hs
theorem E6(ak:List Value)(n j:Nat)(u:Value):Obj.mapSeq (·.setIfInBounds j u) {cls:=.type "list",data:=.seq ak.toArray n}={cls:=.type "list",data:=.seq (ak.set j u).toArray n}:=by
 simp[Obj.mapSeq]
theorem Inv.lst{pins:List (Addr×Obj)}{σ:St}{H:Hp}{s:Shared}{p:Addr}{xs:List V}(I:Inv X pins σ H s)(h:H p=some (.lst xs)):
  ∃(ak:List Value) (n:Nat),Vals xs ak/\s.heap.get? p=some {cls:=.type "list",data:=.seq ak.toArray n}/\xs.length<=sizeLine:=by
 obtain⟨z,ak,n,r,e⟩:=I.bx p _ h;exact⟨ak,n,r,e,z⟩
variable {pins:List (Addr×Obj)} {H:Hp} {p:Addr} {ys:List V} {ak:List Value}
theorem Inv.P2{σ:St}{s:Shared}{its':List Value}{n':Nat}{f:Obj->Obj}(I:Inv X pins σ H s)(h:H p=some (.lst xs))(ho:s.heap.get? p=some {cls:=.type "list",data:=.seq ak.toArray n})(hf:f {cls:=.type "list",data:=.seq ak.toArray n}={cls:=.type "list",data:=.seq its'.toArray n'})(r:Vals ys its')(hz:ys.length<=sizeLine)(t:Nat):
  Inv X pins σ (upd H p (.lst ys)) {s with heap:=s.heap.update p f,toks:=t}:=by
 have e:(s.heap.update p f).get? p=some {cls:=.type "list",data:=.seq its'.toArray n'}:=by
  rw[Heap.get?_update_self f ho (by rw[hf]<;>rfl),hf]
 refine I.write (x:=p) (e:=p) (by rw[h];trivial) (.inl rfl) (λb u hb q=>(Heap.get?_update_other _ _ (Ne.symm hb)).trans q) ⟨_,e⟩ ?_;exact⟨hz,its',n',r,e⟩
def S0:V->V->V->Hp->(Hp->Prop)->Prop:=λo i v H Q=>∃p xs k j,o=.ref p/\i=.int k/\H p=some (.lst xs)/\mO xs.length k=some j/\Q (upd H p (.lst (xs.set j v)))
theorem set_list:K4 X S0:=by
 intro pins s σ H o i v ov iv u Q I ro ri rv h;obtain⟨p,xs,k,j,rfl,rfl,hp,hj,q⟩:=h;cases ro;obtain⟨t,rfl⟩:=ri;obtain⟨ak,n,r,ho,hz⟩:=I.lst hp;obtain⟨h1,h2,h3,h4⟩:=Cu hj;have hl:=r.length;have hn:=qN;have I':Inv X pins σ (upd H p (.lst (xs.set j v))) {s with heap:=s.heap.update p (Obj.mapSeq (·.setIfInBounds j u))}:=
  I.P2 hp ho (E6 ak n j u) (r.set rv j) (by rw[length_set];exact hz) s.toks
 by_cases h0:0<=k
 ·have hk:k.toNat=j:=by
   rw[seqIndex_of h0 h4]at h1;exact Option.some.inj h1
  exact PySem.W.ki_setAt ho h0 (by omega) (by rw[size_toArray,<- hl];exact h4) (by rw[hk];exact⟨_,I',q⟩)
 ·have hk:(k+(ak.toArray.size:Int)).toNat=j:=by
   rw[seqIndex_neg (by omega) h3]at h1;rw[size_toArray,<- hl];exact Option.some.inj h1
  exact PySem.W.ki_setBack ho (by omega) (by rw[size_toArray,<- hl];exact h3) (by omega) (by rw[hk];exact⟨_,I',q⟩)
theorem yF(lo hi:Option Int)(n:Nat):(sliceBounds lo hi none n).1=((HT.cc n 0 lo:Nat):Int)/\(sliceBounds lo hi none n).2.1=((HT.cc n n hi:Nat):Int)/\(sliceBounds lo hi none n).2.2=1:=by
 refine⟨?_,?_,rfl⟩
 ·cases lo with
  |none=>simp[sliceBounds,HT.cc]
  |some i=>
   simp only[sliceBounds,HT.cc,Option.getD_none,show(1:Int)>0 by decide,if_true];by_cases h:i<0
   ·simp only[h,if_true]<;>omega
   ·simp only[h,if_false]<;>omega
 ·cases hi with
  |none=>simp[sliceBounds,HT.cc]
  |some i=>
   simp only[sliceBounds,HT.cc,Option.getD_none,show(1:Int)>0 by decide,if_true];by_cases h:i<0
   ·simp only[h,if_true]<;>omega
   ·simp only[h,if_false]<;>omega
theorem y7(ak:List Value)(lo hi:Option Int):slicePick ak.toArray lo hi none=((ak.drop (HT.cc ak.length 0 lo)).take (HT.cc ak.length ak.length hi-HT.cc ak.length 0 lo)).toArray:=by
 obtain⟨h1,h2,h3⟩:=yF lo hi ak.toArray.size;unfold slicePick;rw[h1,h2,h3];simp only[sliceRange_one,pick_run,size_toArray]<;>rfl
def Vz (K:Frag):V->Option Int->Option Int->Hp->VK->Prop:=λx lo hi H Q=>∃a xs,x=.ref a/\fK K H a xs/\∀p,H p=none->Q (.ref p) (upd H p (.lst (rj xs lo hi)))
theorem Ma:AV X (Vz X.K):=by
 intro pins s σ H x v vl vu lo hi sl Q I rx hs pl pu h;obtain⟨a,xs,rfl,hx,q⟩:=h;cases rx;obtain⟨ak,r,ht,hz⟩:=I.list hx;have hlen:=r.length;refine⟨"list",_,slot_list_getitem.lookup,ht.isList.typeIs,?_⟩;refine wpAny_getItem_list_slice ht.isList hs pl pu .none (by simp) ?_ (by rw[size_toArray]<;>omega);rw[y7,<- hlen];refine⟨.ref s.heap.objs.size,_,I.laid (t':=s.toks) (o:=.lst (rj xs lo hi)) (λb ob q=>get?_push_of_some _ q) (le_refl _) ?_,rfl,q _ (I.bx.fresh (le_refl _))⟩;exact⟨le_trans (sT xs lo hi) hz,_,0,(r.drop (HT.cc xs.length 0 lo)).take (HT.cc xs.length xs.length hi-HT.cc xs.length 0 lo),get?_push_size _ rfl⟩
def kZ:V->Bool
 | .bO=>true
 | .bl _=>true
 | .int _=>true
 | .str _=>true
 |_=>false
def vd:V->V->Bool
 | .bO,.bO=>true
 | .bl a,.bl b=>a==b
 | .bl a,.int b=>(if a then 1 else 0)==b
 | .int a,.bl b=>a==(if b then 1 else 0)
 | .int a,.int b=>a==b
 | .str a,.str b=>a==b
 |_,_=>false
variable {A:Around} {x:V}
theorem Qg{s:Shared}{y:V}{u v:Value}(ry:RelV y u)(rx:RelV x v)(fy:kZ y=true)(fx:kZ x=true):SeqAt.EqAt A s u v (vd y x):=by
 cases y with
 |bO=>
  cases ry;cases x with
  |bO=>cases rx;exact SeqAt.EqAt.same _
  |bl b=>cases rx;exact SeqAt.EqAt.none_bool b
  |int b=>obtain⟨t,rfl⟩:=rx;exact SeqAt.EqAt.none_int b t
  |str b=>obtain⟨t,rfl⟩:=rx;exact SeqAt.EqAt.none_str b t
  |_=>exact absurd (show false=true from fx) Bool.false_ne_true
 |bl a=>
  cases ry;cases x with
  |bO=>cases rx;exact SeqAt.EqAt.bool_none a
  |bl b=>cases rx;exact SeqAt.EqAt.bool_bool a b
  |int b=>obtain⟨t,rfl⟩:=rx;exact SeqAt.EqAt.bool_int a b t
  |str b=>obtain⟨t,rfl⟩:=rx;exact SeqAt.EqAt.bool_str a b t
  |_=>exact absurd (show false=true from fx) Bool.false_ne_true
 |int a=>
  obtain⟨t',rfl⟩:=ry;cases x with
  |bO=>cases rx;exact SeqAt.EqAt.int_none a t'
  |bl b=>cases rx;exact SeqAt.EqAt.int_bool a t' b
  |int b=>obtain⟨t,rfl⟩:=rx;exact SeqAt.EqAt.int_int a t' b t
  |str b=>obtain⟨t,rfl⟩:=rx;exact SeqAt.EqAt.int_str a t' b t
  |_=>exact absurd (show false=true from fx) Bool.false_ne_true
 |str a=>
  obtain⟨t',rfl⟩:=ry;cases x with
  |bO=>cases rx;exact SeqAt.EqAt.str_none a t'
  |bl b=>cases rx;exact SeqAt.EqAt.str_bool a t' b
  |int b=>obtain⟨t,rfl⟩:=rx;exact SeqAt.EqAt.str_int a t' b t
  |str b=>obtain⟨t,rfl⟩:=rx;exact SeqAt.EqAt.str_str a t' b t
  |_=>exact absurd (show false=true from fx) Bool.false_ne_true
 |_=>exact absurd (show false=true from fy) Bool.false_ne_true
def ve (x:V) (u:Value):Bool:=match u with
 | .none=>vd .bO x
 | .bool b=>vd (.bl b) x
 | .int i _=>vd (.int i) x
 | .str z _=>vd (.str z) x
 |_=>false
theorem Hm{y:V}{u:Value}(r:RelV y u)(f:kZ y=true):ve x u=vd y x:=by
 cases y with
 |bO=>cases r;rfl
 |bl b=>cases r;rfl
 |int i=>obtain⟨t,rfl⟩:=r;rfl
 |str z=>obtain⟨t,rfl⟩:=r;rfl
 |_=>exact absurd (show false=true from f) Bool.false_ne_true
theorem wA{x:V}:∀{xs:List V} {us:List Value},Vals xs us->xs.all kZ=true->us.any (ve x)=xs.any λy=>vd y x
 |_,_,.nil,_=>rfl
 |y::xs,u::us,.cons r t,f=>by
  rw[all_cons,and_eq_true]at f;rw[any_cons,any_cons,Hm r f.1,wA t f.2]
theorem tE{A:Around}{s:Shared}{x:V}{v:Value}(rx:RelV x v)(fx:kZ x=true):∀{xs:List V} {us:List Value},Vals xs us->xs.all kZ=true->∀u∈us,SeqAt.EqAt A s u v (ve x u)
 |_,_,.nil,_=>λu hu=>by cases hu
 |y::xs,u::us,.cons r t,f=>λu' hu=>by
  rw[all_cons,and_eq_true]at f;rcases mem_cons.mp hu with rfl|hu
  ·rw[Hm r f.1];exact Qg r rx f.1 fx
  ·exact tE rx fx t f.2 u' hu
def zL (x:V) (xs:List V):Bool:=xs.any λy=>vd y x
def T7 (K:Frag) (neg:Bool):R2:=λx y H Q=>∃p xs,y=.ref p/\(fK K H p xs\/iN K H p xs)/\kZ x=true/\xs.all kZ=true/\Q (.bl (if neg then !zL x xs else zL x xs)) H
theorem Gj:dS X (compareOp .In) (T7 X.K false):=by
 intro pins s σ H x y v u Q I rx ry h;obtain⟨p,xs,rfl,hq,fx,fs,q⟩:=h;cases ry;rcases hq with hq|hq
 ·obtain⟨ak,r,pl,hz⟩:=I.list hq;refine SeqAt.in_listAt (ve x) pl.isList (λw hw=>tE rx fx r fs w (by simpa using hw)) ⟨.bl _,H,I,rfl,?_⟩;rw[show ak.toArray.any (ve x)=ak.any (ve x) by simp,wA r fs];exact q
 ·obtain⟨ak,r,pl,hz⟩:=I.tuple hq;refine SeqAt.in_tupleAt (ve x) pl (λw hw=>tE rx fx r fs w (by simpa using hw)) ⟨.bl _,H,I,rfl,?_⟩;rw[show ak.toArray.any (ve x)=ak.any (ve x) by simp,wA r fs];exact q
theorem AH:kH X (.type "list") (λxs H Q=>∃p ys,xs=[.ref p]/\(fK X.K H p ys\/iN X.K H p ys)/\∀l,H l=none->Q (.ref l) (upd H l (.lst ys))):=by
 intro pins s σ H xs us Q I r h;obtain⟨p,ys,rfl,hq,q⟩:=h;obtain⟨u,rfl,rx⟩:=vals1 r;cases rx;have fin:∀(ak:List Value),Vals ys ak->ys.length<=sizeLine->∀(h':Heap) (c':Nat),(∀b o',s.heap.get? b=some o'->h'.get? b=some o')->
   h'.get? s.heap.objs.size=some {cls:=.type "list",dict:=none,data:=.seq ak.toArray c',slots:=#[]}->EP X pins σ Q (.ref s.heap.objs.size) {s with heap:=h'}:=λak r' hz h' c' kp e=>
  ⟨.ref s.heap.objs.size,_,I.laid (t':=s.toks) kp (le_refl _) (show gE X.prog X.w _ h' _ (.lst ys)from⟨hz,ak,c',r',e⟩),rfl,q _ (I.bx.fresh (le_refl _))⟩
 rcases hq with hq|hq
 ·obtain⟨ak,r',pl,hz⟩:=I.list hq;have hlen:=r'.length;obtain⟨o,ho,hc,n,hd⟩:=pl.isList;exact call_list_seq p (.inl rfl) ho hc hd (λh' c' kp e=>fin ak r' hz h' c' kp e) (by simp only[size_toArray]<;>omega)
 ·obtain⟨ak,r',pl,hz⟩:=I.tuple hq;have hlen:=r'.length;obtain⟨o,ho,hc,n,hd⟩:=pl;exact call_list_seq p (.inr rfl) ho hc hd (λh' c' kp e=>fin ak r' hz h' c' kp e) (by simp only[size_toArray]<;>omega)
theorem qa:kH X (.type "tuple") (λxs H Q=>∃p ys,xs=[.ref p]/\((fK X.K H p ys/\∀l,H l=none->Q (.ref l) (upd H l (.tup ys)))\/(iN X.K H p ys/\Q (.ref p) H))):=by
 intro pins s σ H xs us Q I r h;obtain⟨p,ys,rfl,h⟩:=h;obtain⟨u,rfl,rx⟩:=vals1 r;cases rx;rcases h with⟨hq,q⟩|⟨hq,q⟩
 ·obtain⟨ak,r',pl,hz⟩:=I.list hq;have hlen:=r'.length;refine call_tuple_list pl.isList (λh' kp=>?_) (by simp only[size_toArray]<;>omega);have I1:Inv X pins σ H {s with heap:=h'}:=I.kept (t':=s.toks) kp;have I2:Inv X pins σ (upd H h'.objs.size (.tup ys)) {s with heap:=h'.push {cls:=.type "tuple",data:=.seq ak.toArray}}:=
   I1.laid (t':=s.toks) (λb o e=>get?_push_of_some _ e) (le_refl _) (show gE X.prog X.w _ _ _ (.tup ys)from⟨hz,ak,r',IsTup.new _ _⟩)
  exact⟨.ref h'.objs.size,_,I2,rfl,q _ (I1.bx.fresh (le_refl _))⟩
 ·obtain⟨ak,r',pl,hz⟩:=I.tuple hq;exact call_tuple_same pl ⟨.ref p,H,I,rfl,q⟩
def SV (K:Frag) (T:String) (x:V) (H:Hp):Prop:=match x with
 | .str _=>T="str"
 | .int _=>T="int"
 | .ref p=>(T="list"/\∃xs,fK K H p xs)\/(T="tuple"/\∃o,K.lookup p=some o/\o.cls=.type "tuple"/\o.dict=none)\/
   (T="dict"/\((∃gc,H p=some (.dK gc))\/∃gc,H p=some (.dT gc)))\/(T="set"/\∃S n,H p=some (.set S n))
 |_=>False
variable {T:String}
theorem NT{σ:St}{s:Shared}{v:Value}(I:Inv X pins σ H s)(r:RelV x v)(ty:SV X.K T x H):
  s.TypeIs v T/\∀a,v=.ref a->∃ob,s.heap.get? a=some ob/\ob.dict=none:=by
 cases x with
 |str z=>
  obtain⟨t,rfl⟩:=r;cases(show T="str" from ty);exact⟨typeIs_str s z t,λ_ e=>nomatch e⟩
 |int i=>
  obtain⟨t,rfl⟩:=r;cases(show T="int" from ty);exact⟨typeIs_int s i t,λ_ e=>nomatch e⟩
 |ref p=>
  cases r;rcases ty with⟨rfl,xs,hq⟩|⟨rfl,o,hk,hc,hd⟩|⟨rfl,hk⟩|⟨rfl,S,n,hk⟩
  ·obtain⟨ak,_,pl,_⟩:=I.list hq;refine⟨pl.isList.typeIs,λa e=>?_⟩;cases e;obtain⟨o,n,e,c,hd,_⟩:=pl;exact⟨o,e,hd⟩
  ·refine⟨⟨o,I.pT p o hk,hc⟩,λa e=>?_⟩;cases e;exact⟨o,I.pT _ o hk,hd⟩
  ·have z:∃o,s.heap.get? p=some o/\o.ExactDict:=by
    rcases hk with⟨gc,hk⟩|⟨gc,hk⟩
    ·obtain⟨_,_,_,_,o,_,_,e,ex,_⟩:=I.bx p _ hk;exact⟨o,e,ex⟩
    ·obtain⟨_,_,_,_,o,_,_,e,ex,_⟩:=I.bx p _ hk;exact⟨o,e,ex⟩
   obtain⟨o,e,ex⟩:=z;refine⟨⟨o,e,ex.1⟩,λa e2=>?_⟩;cases e2;exact⟨o,e,ex.2.1⟩
  ·obtain⟨o,_,_,_,e,ex,_⟩:=I.bx p _ hk;refine⟨⟨o,e,ex.1⟩,λa e2=>?_⟩;cases e2;exact⟨o,e,ex.2.1⟩
 |_=>exact False.elim ty
def WD (K:Frag) (T:String) (r:V->List V->Hp->VK->Prop) (to:TE) (t:TA):TE:=λσ H Q=>to σ H λx H1=>SV K T x H1/\t σ H1 λxs H2=>r x xs H2 Q
variable {id:String} {to:TE} {name:Str} {es:List Expr} {tU apos:Pos} {t:TA} {o:Expr} {r:V->List V->Hp->VK->Prop}
theorem S8(pa:PlainAttrs T)(slot:Slot T name id)(X8:typeOf (.builtin id)=pure (.type "method_descriptor"))(hm:YN X id r)(ho:PE X o to)(ha:PA X (e::es) t)(Eh:attributeBase o name X.env (eval o X.env)=eval o X.env:=by rfl)(Jt:((backTo tU (starEach (e::es) X.env)).all (λx=>!x.1)&&(backToKw tU (keywordEach [] X.env)).all (λx=>x.1.isSome)
   &&decide ((e::es).length+([]:List Keyword).length+(if([]:List Keyword).isEmpty then 0 else 1)<30))=true:=by rfl)(uX:(apos.endLine==tU.line)=true:=by rfl)(hs:starEach (e::es) X.env=(false,eval e X.env)::starEach es X.env:=by rfl)(zX:(backTo tU (starEach es X.env)).any (·.1)=false:=by rfl):
  PE X (.Call (.Attribute o name apos) (e::es) [] tU) (WD X.K T r to t):=by
 intro pins s σ H Q I h;refine wpAny_Call_method_late Eh Jt uX rfl (cq (ho pins s σ H _ I h) λv s1 ⟨x,H1,I1,r1,ty,q1⟩=>?_);obtain⟨h1,h2⟩:=NT I1 r1 ty;refine⟨T,id,pa,slot,X8,h1,h2,?_⟩;have hA:=ha tU pins s1 σ H1 _ I1 q1;rw[hs]at hA ⊢;refine Calls.callWith_builtin (by show(false || (backTo tU (starEach es X.env)).any (·.1))=false;rw[zX]<;>rfl) (Calls.evalArgs_plain ?_);exact cq hA λus s2 ⟨vs,H2,I2,r2,q2⟩=>hm pins s2 σ H2 x vs v us Q I2 r1 r2 q2
open PySem PySem.Spec PyProof.Rows
def YO (X:Cx) (id:String) (r:V->List V->Hp->VK->Prop):Prop:=
 ∀(pins:List (Addr×Obj)) (s:Shared) (σ:St) (H:Hp) (x:V) (xs:List V) (v:Value) (us:List Value) (Q:VK),Inv X pins σ H s->RelV x v->Vals xs us->r x xs H Q->
  wpAny (model X.prog X.w) X.A (call (.builtin id) (v::us)) (EP X pins σ Q) X.xe s
theorem Vals.one:∀{x:V} {us:List Value},Vals [x] us->∃u,us=[u]/\RelV x u
 |_,_,.cons r .nil=>⟨_,rfl,r⟩
theorem Vals.rep{xs:List V}{us:List Value}(h:Vals xs us):∀k:Nat,Vals (List.replicate k xs).flatten (List.replicate k us).flatten
 |0=>.nil
 |k+1=>by
  rw[replicate_succ,replicate_succ,flatten_cons,flatten_cons];exact Vals.append h (Vals.rep h k)
theorem foldl_rep(ak:List Value):∀(k:Nat) (acc:List Value),
  foldl (λx1 x2=>x1++x2) acc.toArray (List.replicate k ak.toArray)=(acc++(List.replicate k ak).flatten).toArray
 |0,acc=>by simp
 |k+1,acc=>by
  have e:acc.toArray++ak.toArray=(acc++ak).toArray:=by simp
  have e2:(acc++ak)++(List.replicate k ak).flatten=acc++(List.replicate (k+1) ak).flatten:=by
   rw[replicate_succ,flatten_cons,append_assoc]
  rw[<- e2,<- foldl_rep ak k (acc++ak),<- e,replicate_succ,foldl_cons]
variable {σ:St} {l:Addr}
variable {s:Shared} in
theorem Inv.VH{its':List Value}{f:Array Value->Array Value}{t':Nat}(I:Inv X pins σ H s)(hH:H l=some (.lst xs))(e:s.heap.get? l=some {cls:=.type "list",data:=.seq ak.toArray n})(hf:f ak.toArray=its'.toArray)(hv:Vals ys its')(hz:ys.length<=sizeLine):
  Inv X pins σ (upd H l (.lst ys)) {s with heap:=s.heap.update l (Obj.mapSeq f),toks:=t'}:=by
 have q:=PySem.IsL.update e f;rw[hf]at q;refine I.write (x:=l) (e:=l) (by rw[hH];exact trivial) (.inl rfl) (λb' u hb hu=>(Heap.get?_update_other s.heap (Obj.mapSeq f) (Ne.symm hb)).trans hu) ⟨_,q⟩ ?_;exact⟨hz,its',_,hv,q⟩
variable {s:Shared} in
theorem Inv.P7{t':Nat}(I:Inv X pins σ H s)(hv:Vals ys ak)(hz:ys.length<=sizeLine):
  Inv X pins σ (upd H s.heap.objs.size (.lst ys)) {s with heap:=s.heap.push {cls:=.type "list",data:=.seq ak.toArray},toks:=t'}:=
 I.laid (λ_ _ q=>get?_push_of_some _ q) (le_refl _) ⟨hz,ak,0,hv,get?_push_size _ rfl⟩
variable {s:Shared} in
theorem Inv.fresh(I:Inv X pins σ H s):H s.heap.objs.size=none:=I.bx.fresh (le_refl _)
variable {s:Shared} in
theorem Inv.P4(I:Inv X pins σ H s)(hH:H l=some (.lst xs)):xs.length<=sizeLine/\∃(ak:List Value) (n:Nat),Vals xs ak/\xs.length=ak.length/\s.heap.get? l=some {cls:=.type "list",data:=.seq ak.toArray n}:=by
 obtain⟨z,ak,n,r,e⟩:=I.bx l _ hH;exact⟨z,ak,n,r,r.length,e⟩
theorem J8(h:n<=sizeLine):Builtin.List.listTooLong n=false:=by
 unfold Builtin.List.listTooLong;exact decide_eq_false (by omega)
def Mh:V->List V->Hp->VK->Prop:=λx vs H Q=>∃l xs y,x=.ref l/\vs=[y]/\H l=some (.lst xs)/\xs.length<sizeLine/\Q .bO (upd H l (.lst (xs++[y])))
theorem Gv:YO X "list.append" Mh:=by
 intro pins s σ H x vs v us Q I rx rv h;obtain⟨l,xs,y,rfl,rfl,hH,hz,q⟩:=h;cases rx;obtain⟨u,rfl,ru⟩:=rv.one;obtain⟨z,ak,n,r,hl,e⟩:=I.P4 hH;refine call_meets F.slot_list_append ⟨_,e,rfl⟩ F.entry_list_append (F.args_list_append_2 _ _) (PySem.list_append l ak.toArray n u (by rw[size_toArray];omega)) ⟨e,?_⟩;refine⟨.bO,_,I.VH (its':=ak++[u]) hH e (by simp) (r.append (.cons ru .nil)) ?_,rfl,q⟩;rw[length_append,length_singleton];omega
def VA:R2:=λx y H Q=>∃l k xs,x=.ref l/\y=.int k/\H l=some (.lst xs)/\-(2^63)<=k/\k<2^63/\xs.length*k.toNat<=sizeLine/\
 ∀p,H p=none->Q (.ref p) (upd H p (.lst (List.replicate k.toNat xs).flatten))
theorem len_rep(xs:List α)(k:Nat):(List.replicate k xs).flatten.length=k*xs.length:=by
 induction k with
 |zero=>simp
 |succ k ih=>rw[replicate_succ,flatten_cons,length_append,ih,succ_mul,add_comm]
theorem ON:dS X (binaryOp .Mult) VA:=by
 intro pins s σ H x y v u Q I rx ry h;obtain⟨l,k,xs,rfl,rfl,hH,h1,h2,hz,q⟩:=h;cases rx;obtain⟨t,rfl⟩:=ry;obtain⟨z,ak,n,r,hl,e⟩:=I.P4 hH;have hlen:ak.toArray.size*k.toNat<=sizeLine:=by rw[size_toArray,<- hl];exact hz
 have pB:¬ak.toArray.size*k.toNat>(2^63-1)/8:=by
  have:(sizeLine:Nat)<=(2^63-1)/8:=by decide
  omega
 have VY:¬(!Builtin.List.listFitsIndex k)=true:=by
  rw[fitsIndex_both h1 h2];exact Bool.false_ne_true
 have Sr:¬Builtin.List.listTooLong (ak.toArray.size*k.toNat)=true:=by
  rw[J8 hlen];exact Bool.false_ne_true
 have VV:foldl (λx1 x2=>x1++x2) #[] (List.replicate (if ak.toArray.isEmpty=true then 0 else k.toNat) ak.toArray)=(List.replicate k.toNat ak).flatten.toArray:=by
  have f0:∀m:Nat,foldl (λx1 x2=>x1++x2) #[] (List.replicate m ak.toArray)=(List.replicate m ak).flatten.toArray:=λm=>by
   have:=foldl_rep ak m [];rw[nil_append]at this;exact this
  rw[f0];cases ak with
  |nil=>simp
  |cons a r'=>rw[if_neg (by simp)]
 refine wpAny_binaryOp_repeat_ref (T:="list") (U:="int") (by decide) ⟨_,e,rfl⟩ (λs'=>typeIs_int s' k t) noFill_list_mul F.fills_int_mul F.slot_int_rmul repeat_list F.slot_int_index.lookup
  (call_meets F.slot_int_rmul (typeIs_int s k t) F.entry_int_rmul (F.args_int_rmul_2 _ _) (int___rmul___int_list k t l ak.toArray n)
   ⟨e,rfl,⟨_,e,rfl⟩,call_meets F.slot_list_mul ⟨_,e,rfl⟩ F.entry_list_mul (F.args_list_mul_2 _ _) (AutoListH.list___mul___list_int_3 l ak.toArray n k t VY pB Sr) ⟨e,?_⟩⟩)
 rw[VV];exact⟨.ref _,_,I.P7 (t':=s.toks) (r.rep k.toNat) (by rw[len_rep,Nat.mul_comm];exact hz),rfl,q _ I.fresh⟩
end
end L2
namespace Vj
noncomputable section
open PySem PySem.W PySem.Calls PyProof.Rows
theorem uT{P:Params}{h:Heap}:∀(ns:List Int) (vs:List Value),WellAll P h vs (ns.map WData.int)->IntsAre vs ns:=by
 intro ns;induction ns with
 |nil=>
  intro vs w;rw[map_nil]at w;cases w;exact .nil
 |cons n ns ih=>
  intro vs w;rw[map_cons]at w;cases w with
  |cons a b=>
   cases a;exact .cons _ _ (ih _ b)
variable {n:Nat}
theorem FA{l:OpenLaw}(hn:l.most=some n){P:Params}{h:Heap}{args:List WData}{vals:List Value}(Eb:l.row.toRowW.claim.pre args=true)(GJ:WellAll P h vals args):
  ∃a vs ns,vals=[Value.ref a]/\args=[WData.list (ns.map WData.int)]/\h.get? a=some {cls:=.type "list",data:=.seq vs.toArray}/\IntsAre vs ns/\ns.length<=n:=by
 have Xa:WShape.hasAll [] args [.list .int]=true:=(pre_splitW Eb).1;have hc:l.pre.holds [] {args:=args}=true:=(pre_splitW Eb).2;obtain⟨d,r,rfl,h1,h2⟩:=hasAllW_cons Xa;obtain rfl:=hasAllW_nil h2;obtain⟨xs,rfl,h3⟩:=hasW_list h1;obtain⟨ns,rfl⟩:=items_int h3;have hlen:ns.length<=n:=by
  unfold OpenLaw.pre at hc;have h4:(WTm.not (.lt (.lit (.int (n:Int))) (.len (.arg 0)))).holds [] {args:=[.list (ns.map .int)]}=true:=by
   have h4:=(holds_andW hc).1;rw[hn]at h4;exact h4
  have h5:=condW_of h4 (w_not (w_lt w_lit (w_len_list (w_arg rfl))));rw[length_map]at h5;refine Nat.le_of_not_lt λq=>?_;have q':(n:Int)<((ns.length:Nat):Int):=by omega
  first
   |(rw[decide_eq_true q']at h5;exact absurd h5 (by decide))
   |(simp at h5;omega)
 cases GJ with
 |cons w1 w2=>
  cases w2;cases w1 with
  |list ho mS=>exact⟨_,_,ns,rfl,rfl,ho,uT ns _ mS,hlen⟩
theorem FW(l:OpenLaw)(args:List WData):l.row.toRowW.claim.post args (.bool true) args=true:=
 postW_of (r:=l.row.toRowW) (X:=(true==true))
  (show WShape.has [] (.bool true) .bool=true by first|rfl|decide|simp[WShape.has,WShape.arms,WShape.armsAll])
  (show(WTm.eq .res (.lit (.bool true))).value [] {args:=args,res:=some (.bool true),after:=args}=some (.bool (true==true))from w_eq_bool (w_res rfl) w_lit) rfl
variable {q:Program} {loose:List Str} {XP:(Str->Option Value)->Heap->Prop} {YP:World->Heap->Prop}
theorem Be{l:OpenLaw}{d:DefRec}(hn:l.most=some n)(GW:d.params.defaults=[])(call:∀(w:World) (aL bW:Shared) (mg mb:Str->Option Value) (fa:Addr) (o:Obj) (pm cd doc:Value) (a:Addr) (vs:List Value) (ns:List Int),
   Ground q loose [] XP w aL mg mb bW.heap->YP w bW.heap->
   bW.heap.get? fa=some o->o.data=.func (docDef d.name d.params d.body d.scope pm cd doc)->bW.heap.CodeRec cd d.name->mg d.name=some (.ref fa)->
   bW.heap.get? a=some {cls:=.type "list",data:=.seq vs.toArray}->IntsAre vs ns->ns.length<=n->bW.gens=#[]->
   codeAny (model l.prog w) callerA (.call (.ref fa) ⟨[.ref a],[]⟩) (λr s'=>r=.ok (.ret (.bool true))/\OldK bW.heap s'.heap/\s'.os=bW.os/\AllBare s'.gens) bW):
  WalkO q loose XP YP l.row.toRowW d [] (λf vs=>PySem.call f vs):=by
 intro w aL bW mg mb G Y fa o pm cd doc dV kV ho hd gB hD GQ hg args vals as Eb hlay hrd GJ gR;obtain rfl:dV=.none:=Dflts.none hD GW;obtain rfl:kV=.none:=Dflts.noKw hD;obtain⟨a,vs,ns,rfl,rfl,Jp,hints,hlen⟩:=FA hn Eb GJ;refine enter_call (codeAny_mono (call w aL bW mg mb fa o pm cd doc a vs ns G Y ho (fd_plain hd) gB GQ Jp hints hlen hg) λr s' hq=>?_);obtain⟨rfl,h2,h3,h4⟩:=hq;exact⟨.inl ⟨.bool true,.bool true,[],rfl,λ_=>rfl,.bool true,FW l _,λ_=>⟨List.Pairwise.nil,λ_ hm=>(nomatch hm)⟩⟩,h2,h3,h4⟩
end
end Vj
namespace L2
noncomputable section
open PySem PySem.Spec PyProof.Rows
theorem wW:∀{vs:List Value} {ns:List Int},IntsAre vs ns->Vals (ns.map V.int) vs
 |_,_,.nil=>.nil
 |_,_,.cons n t h=>.cons ⟨t,rfl⟩ (wW h)
def K5 (H:Hp):Prop:=∀b,H b=none\/∃o xs,H b=some (.q5 o (.lst xs))
variable {P:Program} {w:World} {mg:Str->Option Value} {k:Nat} {a:Addr} {fd:FuncData} {x:Str}
theorem Jj{K:Frag}{mb:Str->Option Value}{CX:y6}{fa:Addr}{sp:Sp}{bW:Shared}{vs:List Value}{ns:List Int}(KX:K.In bW.heap)(TJ:bW.heap.Ns mainGlobals mg)(hb:bW.heap.Ns builtinsNs mb)(xF:∀x:Str,x≠"__name__"->mb x=bootBuiltins x)(VX:bW.heap.NoLimit)(hg:bW.gens=#[])(ha:bW.heap.get? a=some {cls:=.type "list",data:=.seq vs.toArray})(hi:IntsAre vs ns)(hl:ns.length<=sizeLine)(hr:cF k callerA)(F:∀base:Heap,K.In base->base.Ns mainGlobals mg->gJ P w K mg base CX k fa fd [x] sp)(Sx:∀(s:Shared) (u:Value),BindsTo s fd ⟨[u],[]⟩ [(x,u)])(lQ:∀H:Hp,K5 H->fK K H a (ns.map V.int)->sp [.ref a] H (λv _=>v=.bl true) λ_ _ _=>False)(Q7:∀H e s',CX [] H bW (λ_ _ _=>False) e s'->False):
  codeAny (model P w) callerA (.call (.ref fa) ⟨[.ref a],[]⟩) (λr s'=>r=.ok (.ret (.bool true))/\OldK bW.heap s'.heap/\s'.os=bW.os/\AllBare s'.gens) bW:=by
 have rv:=wW hi;have VI:=hi.length

 have core:∀H:Hp,K5 H->fK K H a (ns.map V.int)->ij P w H bW.heap->(∀b,H b≠none->b=a)->(H a≠none->K.lookup a=none)->
   codeAny (model P w) callerA (.call (.ref fa) ⟨[.ref a],[]⟩) (λr s'=>r=.ok (.ret (.bool true))/\OldK bW.heap s'.heap/\s'.os=bW.os/\AllBare s'.gens) bW:=by
  intro H hO hS bx hA hK;have Dl:∀{b:Addr} {o:Obj},bW.heap.get? b=some o->H b=none->(pA bW.heap H).get? b=some o:=λe n=>Js e n;have Gr:∀{b:Addr} {o:Obj} {es:Array DictEntry} {ep:Nat},bW.heap.get? b=some o->o.data=.dict es ep->H b=none:=fun{b o es ep} e d=>by
   cases q:H b with
   |none=>rfl
   |some u=>
    have e':b=a:=hA b (by rw[q];simp);subst e';rw[ha]at e;cases e;have d':Data.seq vs.toArray _=Data.dict es ep:=d;cases d'
  have KR:∀{b:Addr} {m:Str->Option Value},bW.heap.Ns b m->(pA bW.heap H).Ns b m:=fun{b m} ⟨o,es,ep,e,d,r⟩=>⟨o,es,ep,Dl e (Gr e d),d,r⟩;have U7:K.In (pA bW.heap H):=λb o e=>Dl (KX b o e) (by
   cases q:H b with
   |none=>rfl
   |some u=>
    have e':b=a:=hA b (by rw[q];simp);subst e';rw[hK (by rw[q];simp)]at e;cases e)
  have hM:Mod K mg (pA bW.heap H):=⟨U7,KR TJ,⟨mb,KR hb,xF⟩,let ⟨mc,h1,h2⟩:=VX;⟨mc,KR h1,h2⟩⟩;have e0:EJ P w K mg (pA bW.heap H) callerA [] bW H:=⟨rfl,hM,λb o e=>MM e,le_of_eq (GS _ _),trivial,λb hb=>absurd (show b∈([]:List Addr)from hb) (by simp),bx,.of_eq hg⟩;refine codeAny_mono ((F _ U7 (KR TJ)).run callerA [] bW H ⟨[.ref a],[]⟩ [.ref a] [.ref a] _ _ hr e0 (Sx bW (.ref a)) (.cons rfl .nil) (lQ H hO hS)) λr s' h=>?_;cases r with
  |error e=>exact(Q7 H e s' h).elim
  |ok fl=>
   cases fl with
   |next=>exact False.elim h
   |brk=>exact False.elim h
   |cont=>exact False.elim h
   |ret u=>
    obtain⟨v,H',os,bare,un,VS,r',q⟩:=h;have q':v=.bl true:=q;subst q';obtain rfl:u=Value.bool true:=r';refine⟨rfl,OldK.of_keep λb o e=>?_,os,bare⟩;cases q:H b with
    |none=>exact un.keep b o e q (by intro z;exact absurd (show b∈([]:List Addr)from z) (by simp)) (by simp)
    |some u=>
     rcases hO b with z|⟨ob,xs,z⟩
     ·rw[q]at z;cases z
     ·have z2:=un.lJ b ob _ z;obtain⟨e1,_⟩:=bx b _ z;obtain⟨e2,_⟩:=VS b _ z2;rw[e]at e1;cases e1;exact e2
 cases hk:K.lookup a with
 |some o=>

  have e:=KX a o hk;rw[ha]at e;cases e;refine core (λ_=>none) (λ_=>.inl rfl) (.inr ⟨_,vs.toArray,_,hk,rfl,rfl,rfl,by rw[size_toArray,VI];exact hl,by simpa using rv⟩) (λb u z=>by have z':(none:Option HO)=some u:=z;cases z') (λb z=>absurd rfl z) λz=>absurd rfl z
 |none=>
  refine core (λb=>if b=a then some (.q5 {cls:=.type "list",data:=.seq vs.toArray} (.lst (ns.map V.int)))else none) (λb=>?_) (.inl (.inr ⟨{cls:=.type "list",data:=.seq vs.toArray},if_pos rfl⟩)) (λb u z=>?_) (λb z=>?_) λ_=>hk
  ·by_cases hb:b=a
   ·exact .inr ⟨_,_,if_pos hb⟩
   ·exact .inl (if_neg hb)
  ·by_cases hb:b=a
   ·have z':=(if_pos hb).symm.trans z;cases z';subst hb;exact⟨ha,by rw[length_map];exact hl,vs,_,rv,ha⟩
   ·have z':=(if_neg hb).symm.trans z;cases z'
  ·by_cases hb:b=a
   ·exact hb
   ·exact absurd (if_neg hb) z
open PySem PySem.Spec PyProof.Rows
variable {n:Nat}
theorem M1{l:PySem.W.OpenLaw}{q:Program}{loose:List Str}{XP:(Str->Option Value)->Heap->Prop}{YP:World->Heap->Prop}{d:DefRec}{K:Params->Frag}{CX:World->y6}{sp:World->Sp}(hn:l.most=some n)(TM:n<=sizeLine)(GW:d.params.defaults=[])(hr:cF k callerA)(hY:∀(w:World) (h:Heap),YP w h->(K w.params).In h)(F:∀(w:World) (mg:Str->Option Value) (fa:Addr) (h:Heap),(K w.params).In h->h.Ns mainGlobals mg->mg d.name=some (.ref fa)->
   ∃fd:FuncData,(∀(s:Shared) (u:Value),BindsTo s fd ⟨[u],[]⟩ [(x,u)])/\
    ∀base:Heap,(K w.params).In base->base.Ns mainGlobals mg->gJ l.prog w (K w.params) mg base (CX w) k fa fd [x] (sp w))(lQ:∀(w:World) (H:Hp) (a:Addr) (ns:List Int),ns.length<=n->K5 H->fK (K w.params) H a (ns.map V.int)->sp w [.ref a] H (λv _=>v=.bl true) λ_ _ _=>False)(Q7:∀(w:World) (H:Hp) (s:Shared) (e:Value) (s':Shared),CX w [] H s (λ_ _ _=>False) e s'->False):
  PySem.W.WalkO q loose XP YP l.row.toRowW d [] (λf vs=>PySem.call f vs):=by
 refine Vj.Be hn GW λw aL bW mg mb fa o pm cd doc a vs ns G Y ho hd gB GQ Jp hints hlen hg=>?_;have KX:=hY w _ Y;obtain⟨fd,hb,hF⟩:=F w mg fa _ KX G.T.g GQ;exact Jj KX G.T.g G.T.b G.T.builtins G.T.nolimit hg Jp hints (le_trans hlen TM) hr hF hb (λH hO hS=>lQ w H a ns hlen hO hS) λH e s'=>Q7 w H bW e s'
open PySem PySem.Spec PyProof.Rows
def k6 (s:Stmt):Arguments:=match s with
 | .FunctionDef _ a _ _ _ _ _ _ _ _=>a
 |_=>{posonlyargs:=[],args:=[],vararg:=none,kwonlyargs:=[],kw_defaults:=[],kwarg:=none,defaults:=[]}
def dj (s:Stmt):List Stmt:=match s with
 | .FunctionDef _ _ b _ _ _ _ _ _ _=>b
 |_=>[]
def bf (s:Stmt):Scope:=match s with
 | .FunctionDef _ _ _ _ _ _ sc _ _ _=>sc
 |_=>{kind:=.function,names:=[],isGenerator:=false,isCoroutine:=false}
abbrev jj:y6:=λ_ _ _ _ _ _=>False
abbrev E0:XK:=λ_ _ _=>False
variable {X:Cx}
theorem yh:Passes jj X E0:=λ_ _ _ _ _ _ _ h=>h.elim
structure nM (K:Frag) (x qual:Str) (st:Stmt) (f:Addr) (fd:FuncData):Prop where
 ex:∃(oc:Value) (od:Option Addr) (kV doc pm:Value) (an:Option Addr) (bF ct:Value) (sJ:Array (Option Value)),
  fd=fnOf x qual (k6 st) (dj st) (bf st) .none kV doc pm an bF ct/\K.lookup f=some ⟨oc,od,.func fd,sJ⟩/\codeIn K bF qual=true
 kp:keepIn K (.ref f)=true
variable {K:Frag} {base:Heap} {qual:Str} {st:Stmt} {f:Addr} {N ps:List Str}
theorem nM.ok{sp:Sp}(F:nM K x qual st f fd)(S:gi N ps (bf st))(len:∀vs H Q E,sp vs H Q E->vs.length=ps.length)(hbody:∀(bF:Value) (A:Around) (outer:List Env) (s:Shared) (H:Hp) (vs:List V) (Q:VK) (E:XK),cF k (A.deeper (envOfC qual (bf st) s.heap.objs.size f bF))->sp vs H Q E->
   ∃t,lH (jM jj P w K mg base N qual (bf st) f bF A outer s H E).oB (dj st) t/\t {nx:=λ_ H'=>Q .bO H',rt:=Q} (start N vs) H):gJ P w K mg base jj (k+1) f fd ps sp:=by
 obtain⟨oc,od,kV,doc,pm,an,bF,ct,sJ,rfl,lk,gB⟩:=F.ex;refine SE lk gB S len λA outer s H vs Q E hr lQ=>?_;obtain⟨t,h,q⟩:=hbody bF A outer s H vs Q E hr lQ;exact⟨t,h.oB,q⟩
theorem nM.binds(F:nM K x qual st f fd)(h:∀(kV doc pm:Value) (an:Option Addr) (bF ct:Value) (us:List Value),us.length=ps.length->bindArgs (fnOf x qual (k6 st) (dj st) (bf st) .none kV doc pm an bF ct) ⟨us,[]⟩=pure (ps.zip us)):Binds K fd ps []:=by
 obtain⟨oc,od,kV,doc,pm,an,bF,ct,sJ,rfl,lk,gB⟩:=F.ex;exact .all (h kV doc pm an bF ct)
variable {oc pm ct:Value} {od an:Option Addr}
theorem Ag{sJ:Array (Option Value)}{kV doc bF:Value}(l:K.lookup f=some ⟨oc,od,.func (fnOf x qual (k6 st) (dj st) (bf st) .none kV doc pm an bF ct),sJ⟩)(c:codeIn K bF qual=true)(k:keepIn K (.ref f)=true):nM K x qual st f (fnOf x qual (k6 st) (dj st) (bf st) .none kV doc pm an bF ct):=⟨⟨oc,od,kV,doc,pm,an,bF,ct,sJ,rfl,l,c⟩,k⟩
theorem xc(h:n<=1000):n<sizeLine:=lt_of_le_of_lt h (by decide)
def bg (H H':Hp):Prop:=∀b o,H b=some o->H' b=some o
theorem bg.refl(H:Hp):bg H H:=λ_ _ h=>h
variable {H H1:Hp}
theorem bg.trans{H2:Hp}(a:bg H H1)(b:bg H1 H2):bg H H2:=λc o h=>b c o (a c o h)
open PySem PySem.Spec PyProof.Rows
variable {σ:St} {pins:List (Addr×Obj)}
variable {s:Shared} in
theorem Inv.big(I:Inv X pins σ H s):sysModules<s.heap.objs.size:=by
 have h:mainGlobals<s.heap.objs.size:=(I.mod.glob.keeps I.bk).lt;exact lt_trans (by decide) h
open PySem PySem.Spec PyProof.Rows
variable {prog:Program} {A:Around} {elt iter:Expr} {ifs:List Expr} {scope:Scope} {pos:Pos} {env:Env}
theorem rn{R:Result->Shared->Prop}{s:Shared}{target:Expr}{it acc:Value}(I:Nat->Shared->Prop)(turn:∀n s,I n s->wpAny (model prog w) A (pyNext it) (λr bW=>match r with
   |none=>R (.ok .next) bW
   |some v=>wpAny (model prog w) A (letOwnedTupleGo target it v) (λ_ Ks=>wpAny (model prog w) A (assign target env v) (λ_ bB=>
     wpAny (model prog w) A (forIn ifs true λc r=>if r=true then do let ok <- isTrue c env (eval c env);pure (ForInStep.yield ok)else pure (ForInStep.yield r)) (λok mC=>
      if ok=true then wpAny (model prog w) A (eval elt env) (λx O3=>
       wpAny (model prog w) A (call (.builtin "list.append") [acc,x]) (λ_ O1=>∃m,m<n/\I m O1) (notedBy (model prog w) A env λe s'=>R (.error e) s') O3) (notedBy (model prog w) A env λe s'=>R (.error e) s') mC
      else ∃m,m<n/\I m mC) (notedBy (model prog w) A env λe s'=>R (.error e) s') bB) (notedBy (model prog w) A env λe s'=>R (.error e) s') Ks) (notedBy (model prog w) A env λe s'=>R (.error e) s') bW) (notedBy (model prog w) A env λe s'=>R (.error e) s') s)(n:Nat)(h:I n s):
  codeAny (model prog w) A (.compLoop (.ListComp elt [⟨target,iter,ifs,0⟩] scope pos) 0 it acc env) R s:=by
 refine codeAny_loop rfl I (λn s hI=>?_) n h;show wpAny _ A ((compTurn (.ListComp elt [⟨target,iter,ifs,0⟩] scope pos) 0 it acc env).onRaise (λx=>do noteFrame x env;theTreesLotGoes x)) _ _ s
 refine wpAny_noted ?_;rw[compTurn_list];refine wpAny_bind (wpAny_standAt (wpAny_bind (wpAny_mono (turn n s hI) (λr bW jm=>?_) λ_ _ h'=>h')));cases r with
 |none=>exact wpAny_pure jm
 |some v=>
  refine wpAny_bind (wpAny_mono jm (λ_ Ks Sq=>?_) λ_ _ h'=>h');refine wpAny_bind (wpAny_mono Sq (λ_ bB zN=>wpAny_bind (wpAny_mono zN (λok mC Pq=>?_) λ_ _ h'=>h')) λ_ _ h'=>h');cases ok with
  |false=>exact wpAny_pure ⟨rfl,Pq⟩
  |true=>
   exact wpAny_bind (wpAny_bind (wpAny_mono Pq (λx O3 VN=>wpAny_bind (wpAny_mono VN (λ_ O1 VM=>wpAny_pure (wpAny_pure ⟨rfl,VM⟩)) λ_ _ h'=>h')) λ_ _ h'=>h'))
abbrev dt (X:Cx) (scope:Scope) (cl:List (Str×Addr)) (N':List Str) (C:Addr) (aL:Shared) (ah:Hp) (ex:List Addr):Cx:=
 {prog:=X.prog,w:=X.w,K:=X.K,mg:=X.mg,base:=X.base,A:=X.A,N:=N',aL:=aL,ah:=ah,env:=compEnvC scope cl C X.env,outer:=X.stack,stack:=X.stack,ex:=ex,fn:=λ_=>false,calm:=X.calm,pn:=[],xe:=λ_ _=>False}
def Ih (X:Cx) (ifs:List Expr) (t:TT):Prop:=
 ∀(pins:List (Addr×Obj)) (s:Shared) (σ:St) (H:Hp) (Q:Bool->Hp->Prop),Inv X pins σ H s->t σ H Q->
  wpAny (model X.prog X.w) X.A (forIn ifs true λc r=>if r=true then do let ok <- isTrue c X.env (eval c X.env);pure (ForInStep.yield ok)else pure (ForInStep.yield r)) (TP X pins σ Q) X.xe s
def yA:TT:=λ_ H Q=>Q true H
theorem rS:Ih X [] yA:=λ_ _ _ H _ I h=>wpAny_tests_nil ⟨H,I,h⟩
variable {c:Expr}
theorem Mr{t:TT}(h:PT X c t):Ih X [c] t:=λpins s σ H Q I hw=>wpAny_tests_one (h pins s σ H Q I hw)
def bZ (aW:List (Option Nat)) (σ:St):St:=aW.map λo=>o.bind λj=>(σ[j]?).join
structure qg (X:Cx) (scope:Scope) (cl:List (Str×Addr)) (N':List Str) (aW:List (Option Nat)):Prop where
 JV:closureFor scope X.env=pure cl
 cells:∀y∈scope.names,y.2≠.cell
 kind:scope.kind=.function
 names:∀y∈scope.names,y.2=.local->scope.names.lookup y.1=some .local
 nd:N'.Nodup
 len:aW.length=N'.length
 sub:∀x c,cl.lookup x=some c->X.env.cells.lookup x=some c
 has:∀x,((relabel scope X.env).names.lookup x=some .cell\/(relabel scope X.env).names.lookup x=some .free)->∃c,cl.lookup x=some c
 aW:∀(i:Nat) (x:Str) (j:Nat),N'[i]?=some x->aW[i]?=some (some j)->X.N[j]?=some x/\n8 X.env.scope x/\((relabel scope X.env).names.lookup x=some .cell\/(relabel scope X.env).names.lookup x=some .free)/\X.env.scope.names.lookup x≠some .local
def eX:St->St->Prop
 |[],[]=>True
 |none::a,_::b=>eX a b
 |some v::a,u::b=>u=some v/\eX a b
 |_,_=>False
theorem eX.len:∀{a b:St},eX a b->a.length=b.length
 |[],[],_=>rfl
 |none::a,_::b,h=>congrArg (· + 1) (eX.len (a:=a) (b:=b) h)
 |some v::a,u::b,h=>congrArg (· + 1) (eX.len (a:=a) (b:=b) h.2)
 |[],_::_,h=>h.elim
 |none::_,[],h=>h.elim
 |some _::_,[],h=>h.elim
theorem eX.get:∀{a b:St},eX a b->∀(i:Nat) (v:V),a[i]?=some (some v)->b[i]?=some (some v)
 |[],[],_,i,v,e=>by simp at e
 |none::a,_::b,h,0,v,e=>by simp at e
 |none::a,_::b,h,i+1,v,e=>by
  rw[getElem?_cons_succ]at e ⊢;exact eX.get (a:=a) (b:=b) h i v e
 |some x::a,u::b,h,0,v,e=>by
  rw[getElem?_cons_zero]at e ⊢;rw[h.1];exact e
 |some x::a,u::b,h,i+1,v,e=>by
  rw[getElem?_cons_succ]at e ⊢;exact eX.get (a:=a) (b:=b) h.2 i v e
 |[],_::_,h,_,_,_=>h.elim
 |none::_,[],h,_,_,_=>h.elim
 |some _::_,[],h,_,_,_=>h.elim
def rO (aW:List (Option Nat)) (wi:TI) (g:TG) (ug:TT) (te:TE):TE:=λσ H Q=>wi σ H λJ H1=>∃W:Nat->Nat->List V->Hp->Prop,(∃m,W 0 m [] H1)/\∀i m ys H,W i m ys H->ys.length<sizeLine/\
 ((J.stop i H/\∀D,H D=none->Q (.ref D) (upd H D (.lst ys)))\/
  (J.go i H/\∀x H',J.wV i H x H'->g x (bZ aW σ) H' λgj H2=>eX (bZ aW σ) gj/\ug gj H2 λb H3=>if b=true then te gj H3 λv H4=>∃m',m'<m/\W (i+1) m' (ys++[v]) H4 else ∃m',m'<m/\W (i+1) m' ys H3))
variable {tg:Expr} {cl:List (Str×Addr)} {N':List Str}
theorem rW{aW:List (Option Nat)}{wi:TI}{g:TG}{ug:TT}{te:TE}(hc:X.calm=true)(B:qg X scope cl N' aW)(hi:PI X tg iter wi)(hg:∀C aL ah ex,PG (dt X scope cl N' C aL ah ex) tg g)(ht:∀C aL ah ex,Ih (dt X scope cl N' C aL ah ex) ifs ug)(he:∀C aL ah ex,PE (dt X scope cl N' C aL ah ex) elt te)(hs:∀x,foldedSetIterable iter X.env x=pure x:=by intro _;rfl):
  PE X (.ListComp elt [⟨tg,iter,ifs,0⟩] scope pos) (rO aW wi g ug te):=by
 intro pins s σ H Q I h;rw[eval_ListComp];refine wpAny_comprehension_free (use:=none) rfl hs B.JV B.kind B.names (cq (hi pins s σ H _ I h) λxv bW jm=>cq jm λL6 bB zN=>?_);obtain⟨it,fp,tn,J,H2,e,I2,T,ke,f2,W,⟨m0,w0⟩,turn⟩:=zN;subst e;refine wpAny_newObj_type (wpAny_newFunctionEnv B.cells (by intro y hy;simp at hy) (λjm mR ko=>?_) B.kind);dsimp only at mR ko ⊢;generalize A9:bB.heap.push {cls:=.type "list",dict:=none,data:=.seq ([]:List Value).toArray}=HH at mR ko ⊢;have hC:HH.objs.size=bB.heap.objs.size+1:=by rw[<- A9,size_push]
 have H0:bB.heap.objs.size≠HH.objs.size:=by rw[hC];exact ne_of_lt (Nat.lt_succ_self _)
 have below:∀b,b<bB.heap.objs.size->b≠HH.objs.size/\b≠bB.heap.objs.size:=λb hb=>⟨by rw[hC];exact ne_of_lt (Nat.lt_succ_of_lt hb),ne_of_lt hb⟩;have old:∀b o,bB.heap.get? b=some o->jm.get? b=some o:=λb o e=>ko.extBut b o (below b (lt_size e)).1 (get?_push_of_some _ (A9▸get?_push_of_some _ e));have w9:jm.get? bB.heap.objs.size=some {cls:=.type "list",data:=.seq ([]:List Value).toArray}:=ko.extBut _ _ H0 (get?_push_of_some _ (A9▸get?_push_size _ rfl));have pZ:bB.heap.objs.size<=HH.objs.size:=by rw[hC];exact Nat.le_succ _
 generalize hD:bB.heap.objs.size=D at *;generalize Yb:HH.objs.size=C at *

 have Ah:∀b∈fp,b<D:=λb hb=>by
  obtain⟨o,e,_⟩:=T.obj _ _ ke b hb;rw[<- hD];exact lt_size e
 have Es:∀x c,cl.lookup x=some c->c<D:=λx c e=>by
  obtain⟨v,q⟩:=I2.cell x c (B.sub x c e);rw[<- hD];exact q.lt
 have Q9:∀b∈lx X.stack,b∈X.env.locals::X.fs:=λb hb=>I2.uj b hb;have ok:(dt X scope cl N' C bB H2 fp).Ok:=by
  refine⟨I2.mod,B.kind,I2.ok.glob,I2.ok.blt,?_,λx y c h1 h2=>I2.ok.inj x y c (B.sub x c h1) (B.sub y c h2),λx hx=>B.has x hx,λx c hf=>absurd hf (by simp),I2.ok.hd,I2.ok.frames,.inl rfl,λb hb=>⟨?_,λx c e z=>?_⟩,I2.bs,le_trans I2.ok.xU I2.sz,λb o e hb=>?_,λb hb hf=>?_,I2.stack,I2.vI⟩
  ·show bB.heap.objs.size<=C;rw[hD];exact pZ
  ·exact ne_of_lt (lt_of_lt_of_le (Ah b hb) pZ)
  ·exact(f2 b hb).2.2.2.2.1 x c (B.sub x c e) z
  ·have h1:=f2 b hb;rcases h1.2.2.2.1 with z|z
   ·exact I2.ok.vU b o e z
   ·have h2:=(I2.ok.bs b o e).1;exact absurd (lt_of_lt_of_le (lt_size h2) z) (lt_irrefl _)
  ·rcases mem_cons.mp (Q9 b hf)with z|z
   ·exact(f2 b hb).2.1 z
   ·exact(f2 b hb).2.2.1 z
 have qX:∀a,D<=a->H2 a=none:=λa ha=>I2.bx.fresh (by rw[hD];exact ha);have I4:Inv (dt X scope cl N' C bB H2 fp) [] (bZ aW σ) H2 {bB with heap:=jm,toks:=bB.toks+([]:List (Str×Value)).length}:=by
  refine⟨ok,rfl,I2.bare,Un.kept old,⟨_,mR,λi x v e1 e2 e3=>?_⟩,λx c e=>?_,qX C pZ,λx c e=>I2.jB x c (B.sub x c e),λp hp=>absurd (show p∈([]:List (Addr×Obj))from hp) (by simp),I2.bx.kept old,?_⟩
  ·have De:N'[i]?=some x:=e1;unfold bZ at e2;rw[getElem?_map]at e2;cases pB:aW[i]? with
   |none=>rw[pB]at e2;cases e2
   |some o=>
    rw[pB]at e2;cases o with
    |none=>cases e2
    |some j=>
     obtain⟨hN,hv,hk,GP⟩:=B.aW i x j De pB;have e4:σ[j]?=some (some v):=by
      have e5:some ((σ[j]?).join)=some (some v):=e2;cases hq:σ[j]? with
      |none=>rw[hq]at e5;cases e5
      |some q=>rw[hq]at e5;exact e5
     obtain⟨m,hn,hl⟩:=I2.loc;obtain⟨u,r,l⟩:=hl j x v hN e4 hv;refine⟨u,r,.inr ⟨hk,?_⟩⟩;rcases l with⟨k,_⟩|⟨k,c,pW,o,ho,hd⟩
     ·exact absurd k GP
     ·obtain⟨c',iK⟩:=B.has x hk;have e6:=B.sub x c' iK;rw[pW]at e6;cases e6;exact⟨c,iK,o,old c o ho,hd⟩
  ·obtain⟨v,o,ho,hd⟩:=I2.cell x c (B.sub x c e);exact⟨v,o,old c o ho,hd⟩
  ·show(bZ aW σ).length=N'.length;unfold bZ;rw[length_map];exact B.len
 have tD:D≠C:=H0;have Qq:D∉lx X.stack:=λhb=>by
  obtain⟨_,o,ho,_⟩:=I2.stack.mem hb;have:=lt_size ho;rw[hD]at this;exact absurd this (lt_irrefl _)
 have mE:∀{P:List (Addr×Obj)} {H':Hp},(∀p∈P,p.1=D)->(∀b∈fp,H' b=none)->∀b∈fp,pQ (dt X scope cl N' C bB H2 fp) P H' b:=λhP hn b hb=>
  ⟨hn b hb,(ok.CS b hb).1,ok.wg b hb,.inl hb,(ok.CS b hb).2,λp hp z=>by
   have gz:p∈_:=hp;rw[hP p (by simpa using gz)]at z;exact Nat.ne_of_gt (Ah b hb) z⟩
 have loop:∀mC:Shared,mC={bB with heap:=jm,toks:=bB.toks+([]:List (Str×Value)).length}->
   codeAny (model X.prog X.w) X.A (.compLoop (.ListComp elt [⟨tg,iter,ifs,0⟩] scope pos) 0 (.ref it) (.ref D) (compEnvC scope cl C X.env))
    (compPost (model X.prog X.w) X.A X.xe none (EP X pins σ Q) (.ref D) C) mC:=by
  rintro mC rfl;refine rn (λn s'=>∃i ys ak H' k,Inv (dt X scope cl N' C bB H2 fp) [] (bZ aW σ) H' s'/\tn i s'.heap/\(∀b∈fp,H' b=none)/\H' D=none/\s'.heap.get? D=some {cls:=.type "list",data:=.seq (ak:List Value).toArray k}/\Vals ys ak/\W i n ys H') ?_ m0
   ⟨0,[],[],H2,0,I4,T.keep _ _ _ ke λb _ o e=>old b o e,λb hb=>(f2 b hb).1,qX D (le_refl _),w9,.nil,w0⟩
  rintro n s' ⟨i,ys,ak,H',k,Ia,F6,Hf,mU,Q6,rv,wa⟩;obtain⟨hsz,tu⟩:=turn i n ys H' wa;have Ib:Inv (dt X scope cl N' C bB H2 fp) [(D,{cls:=.type "list",data:=.seq ak.toArray k})] (bZ aW σ) H' s':=Ia.jV λp hp=>by
   have gz:p=(D,{cls:=.type "list",data:=.seq ak.toArray k}):=by simpa using hp
   subst gz;exact⟨Q6,mU,tD,Qq,λv z=>nomatch z⟩
  have A8:∀p∈[((D,{cls:=.type "list",data:=.seq ak.toArray k}):Addr×Obj)],p.1=D:=λp hp=>by
   have gz:p=(D,{cls:=.type "list",data:=.seq ak.toArray k}):=by simpa using hp
   rw[gz]
  rcases tu with⟨stop,qn⟩|⟨go,step⟩
  ·refine wpAny_mono (T.done (dt X scope cl N' C bB H2 fp) rfl rfl rfl hc i _ s' (bZ aW σ) H' (λ_ _=>False) Ib (mE A8 Hf) F6 stop) (λr s4 zV=>?_) λ_ _ z=>z.elim;obtain⟨hr,Ic⟩:=zV;subst hr;obtain⟨m,hn,_⟩:=Ic.loc;refine⟨m,hn,λh' pU=>?_⟩;have Jx:s4.heap.get? D=some {cls:=.type "list",data:=.seq ak.toArray k}:=(Ic.pin (D,_) (by simp)).1;have Lu:H' C=none:=Ic.free;have un:Un (lx X.stack) fp H2 (upd H' D (.lst ys)) bB.heap h':=by
    have bs:=Ic.base;have xp:∀b o,bB.heap.get? b=some o->h'.get? b=s4.heap.get? b:=λb o e=>by
     have:b<D:=by rw[<- hD];exact lt_size e
     exact pU.2 b (ne_of_lt (lt_of_lt_of_le this pZ))
    refine⟨λb o e n h1 h2=>(xp b o e).trans (bs.keep b o e n h1 h2),λb o e n h1 h2=>?_,λb o e n h2=>?_,λb o e h2=>?_,λb xs e=>?_,λb o u e=>?_,λb ps e=>?_⟩
    ·obtain⟨sl,q⟩:=bs.slot b o e n h1 h2;exact⟨sl,(xp b o e).trans q⟩
    ·have:b<D:=by rw[<- hD];exact lt_size e
     rw[bC (ne_of_lt this)];exact bs.free b o e n h2
    ·obtain⟨o',q⟩:=bs.there b o e h2;exact⟨o',(xp b o e).trans q⟩
    ·have q:=bs.nR b xs e;rw[bC (bz q mU)];exact q
    ·have q:=bs.lJ b o u e;rw[bC (bz q mU)];exact q
    ·obtain⟨more,q⟩:=bs.nU b ps e;exact⟨more,by rw[bC (bz q mU)];exact q⟩
   have bx:ij X.prog X.w (upd H' D (.lst ys)) h':=λb u e=>by
    by_cases hb:b=D
    ·subst hb;rw[eA]at e;cases e;exact⟨Nat.le_of_lt hsz,ak,k,rv,(pU.2 _ (by show _≠C;exact tD)).trans Jx⟩
    ·rw[bC hb]at e;refine(Ic.bx b u e).nV (λc v GY q=>(pU.2 c ?_).trans q) (λc q=>by rw[bC (bz q mU)];exact q) λc xs q=>by rw[bC (bz q mU)];exact q
     rcases GY with z|z
     ·rw[z];exact bz e Lu
     ·exact bz z Lu
   have If:=I2.LH (s':={s4 with heap:=h'}) (H':=upd H' D (.lst ys)) (ch:=fp) Ic.os un bx Ic.bare λb hb=>⟨(f2 b hb).2.2.2.1,(f2 b hb).2.1,(f2 b hb).2.2.2.2.1,(f2 b hb).2.2.2.2.2⟩;exact⟨.ref D,_,If,rfl,qn D mU⟩
  ·refine wpAny_mono (T.item (dt X scope cl N' C bB H2 fp) rfl rfl rfl hc i _ s' (bZ aW σ) H' (λ_ _=>False) Ib (mE A8 Hf) F6 go) (λr s4 zV=>?_) λ_ _ z=>z.elim;obtain⟨u,hr,h4⟩:=zV;subst hr;refine wpAny_mono h4 (λ_ s5 h5=>?_) λ_ _ z=>z.elim;obtain⟨x,H5,I5,r5,y5,qq,Hg⟩:=h5;have Ii:=I5.pinned (mE A8 Hg) (T.obj _ _ qq);refine wpAny_mono (hg C bB H2 fp _ s5 (bZ aW σ) H5 x u _ Ii r5 (step x H5 y5)) (λ_ s6 h6=>?_) λ_ _ z=>z.elim;obtain⟨ud,H6,I6,uN,q6⟩:=h6;refine wpAny_mono (ht C bB H2 fp _ s6 ud H6 _ I6 q6) (λb s7 h7=>?_) λ_ _ z=>z.elim;obtain⟨H7,I7,q7⟩:=h7

   have back:∀{bH:St} {vw:Hp} {oq:Shared},Inv (dt X scope cl N' C bB H2 fp) ([((D,{cls:=.type "list",data:=.seq ak.toArray k}):Addr×Obj)]++oA fp s5.heap) bH vw oq->
     oq.heap.get? D=some {cls:=.type "list",data:=.seq ak.toArray k}/\vw D=none/\(∀b∈fp,vw b=none)/\tn (i+1) oq.heap:=fun{bH vw oq} Iz=>by
    have pz:=λp hp=>Iz.pin p (mem_append_right _ hp);have pD:=pz (D,{cls:=.type "list",data:=.seq ak.toArray k}) (mem_append_left _ mem_cons_self);refine⟨pD.1,pD.2.1,λb hb=>?_,T.keep _ _ _ qq λb hb o e=>(pz (b,o) (mem_append_right _ (jb hb e))).1⟩;obtain⟨o,e,_⟩:=T.obj _ _ qq b hb;exact(pz (b,o) (mem_append_right _ (jb hb e))).2.1
   have hits:ak.length=ys.length:=rv.length.symm;cases b with
   |false=>
    rw[if_neg Bool.false_ne_true]at q7 ⊢;obtain⟨m',hm,w7⟩:=q7;obtain⟨b1,b2,b3,b4⟩:=back I7;exact⟨m',hm,i+1,ys,ak,H7,k,(I7.jV (pins':=[]) λp hp=>absurd hp (by simp)).weak uN.len uN.get,b4,b3,b2,b1,rv,w7⟩
   |true=>
    rw[if_pos rfl]at q7 ⊢;refine wpAny_mono (he C bB H2 fp _ s7 ud H7 _ I7 q7) (λy s8 h8=>?_) λ_ _ z=>z.elim;obtain⟨v,H8,I8,r8,m',hm,w8⟩:=h8;obtain⟨b1,b2,b3,b4⟩:=back I8;refine wpAny_list_append_plain (l:=D) (items:=ak.toArray) (hsz:=by rw[size_toArray];omega) ⟨k,b1⟩ λh' jw pU=>?_;obtain⟨k',e'⟩:=jw;have I9:Inv (dt X scope cl N' C bB H2 fp) [] ud H8 {s8 with heap:=h',toks:=s8.toks}:=(I8.jV (pins':=[]) λp hp=>absurd hp (by simp)).turned (it:=D) (λb o hb e=>(pU.2 b hb).trans e) b2 tD (.inr (le_of_eq hD))
     (λx c e=>ne_of_lt (Es x c e)) (λp hp=>absurd (show p∈([]:List (Addr×Obj))from hp) (by simp))
    refine⟨m',hm,i+1,ys++[v],ak++[y],H8,k',I9.weak uN.len uN.get,T.keep _ _ _ b4 λb hb o e=>(pU.2 b (ne_of_lt (Ah b hb))).trans e,b3,b2,?_,rv.append (.cons r8 .nil),w8⟩;have Hv:h'.get? D=_:=e';rw[List.push_toArray]at Hv;exact Hv
 exact codeAny_compStart_list (loop _ rfl) (T.self X.A 0 _ _ _ (T.keep _ _ _ ke λb _ o e=>old b o e) (loop _ rfl))
open PySem PySem.Spec PyProof.Rows
def O0 (i:Nat) (aW:List (Option Nat)) (wi:TI) (g:TG) (ug:TT) (te:TE):TS:=λD σ H=>rO aW wi g ug te σ H λv H'=>D.nx (σ.set i (some v)) H'
variable {oV pos':Pos}
theorem vR{aW:List (Option Nat)}{wi:TI}{g:TG}{ug:TT}{te:TE}{iz:Nat}(hc:X.calm=true)(B:qg X scope cl N' aW)(hi:PI X tg iter wi)(hg:∀C aL ah ex,PG (dt X scope cl N' C aL ah ex) tg g)(ht:∀C aL ah ex,Ih (dt X scope cl N' C aL ah ex) ifs ug)(he:∀C aL ah ex,PE (dt X scope cl N' C aL ah ex) elt te)(hN:X.N.Nodup)(zP:X.N[iz]?=some x)(hx:Loc X.env.scope x)(zT:swapsWith (.ListComp elt [⟨tg,iter,ifs,0⟩] scope pos) (some (.Name x pos')) oV.line X.env=pure true)(A0:X.fn x=true\/X.env.scope.names.lookup x=some .local)(hs:∀x,foldedSetIterable iter X.env x=pure x:=by intro _;rfl):
  PS X (.Assign [.Name x pos'] (.ListComp elt [⟨tg,iter,ifs,0⟩] scope pos) oV) (O0 iz aW wi g ug te):=by
 intro pins s σ H DD I h;rw[exec_Assign_Name_used _ _ _ _ zT];refine wpAny_bind (wpAny_standAt (wpAny_bind ?_));show wpAny _ X.A (do let _ <- comprehension (.ListComp elt [⟨tg,iter,ifs,0⟩] scope pos) scope X.env _ (newList []) false (eval iter X.env) (some (assign (.Name x pos') X.env))) _ _ s
 refine wpAny_bind (wpAny_mono (wpAny_comprehension_free (use:=some (assign (.Name x pos') X.env)) (Q:=λ_ s'=>SP X pins DD .next s') rfl hs B.JV B.kind B.names (cq (hi pins s σ H _ I h) λxv bW jm=>cq jm λL6 bB zN=>?_)) (λ_ s' hq=>wpAny_pure (wpAny_pure hq)) λ_ _ e=>e)
 obtain⟨it,fp,tn,J,H2,e,I2,T,ke,f2,W,⟨m0,w0⟩,turn⟩:=zN;subst e;refine wpAny_newObj_type (wpAny_newFunctionEnv B.cells (by intro y hy;simp at hy) (λjm mR ko=>?_) B.kind);dsimp only at mR ko ⊢;generalize A9:bB.heap.push {cls:=.type "list",dict:=none,data:=.seq ([]:List Value).toArray}=HH at mR ko ⊢;have hC:HH.objs.size=bB.heap.objs.size+1:=by rw[<- A9,size_push]
 have H0:bB.heap.objs.size≠HH.objs.size:=by rw[hC];exact ne_of_lt (Nat.lt_succ_self _)
 have below:∀b,b<bB.heap.objs.size->b≠HH.objs.size/\b≠bB.heap.objs.size:=λb hb=>⟨by rw[hC];exact ne_of_lt (Nat.lt_succ_of_lt hb),ne_of_lt hb⟩;have old:∀b o,bB.heap.get? b=some o->jm.get? b=some o:=λb o e=>ko.extBut b o (below b (lt_size e)).1 (get?_push_of_some _ (A9▸get?_push_of_some _ e));have w9:jm.get? bB.heap.objs.size=some {cls:=.type "list",data:=.seq ([]:List Value).toArray}:=ko.extBut _ _ H0 (get?_push_of_some _ (A9▸get?_push_size _ rfl));have pZ:bB.heap.objs.size<=HH.objs.size:=by rw[hC];exact Nat.le_succ _
 generalize hD:bB.heap.objs.size=D at *;generalize Yb:HH.objs.size=C at *

 have Ah:∀b∈fp,b<D:=λb hb=>by
  obtain⟨o,e,_⟩:=T.obj _ _ ke b hb;rw[<- hD];exact lt_size e
 have Es:∀x c,cl.lookup x=some c->c<D:=λx c e=>by
  obtain⟨v,q⟩:=I2.cell x c (B.sub x c e);rw[<- hD];exact q.lt
 have Q9:∀b∈lx X.stack,b∈X.env.locals::X.fs:=λb hb=>I2.uj b hb;have ok:(dt X scope cl N' C bB H2 fp).Ok:=by
  refine⟨I2.mod,B.kind,I2.ok.glob,I2.ok.blt,?_,λx y c h1 h2=>I2.ok.inj x y c (B.sub x c h1) (B.sub y c h2),λx hx=>B.has x hx,λx c hf=>absurd hf (by simp),I2.ok.hd,I2.ok.frames,.inl rfl,λb hb=>⟨?_,λx c e z=>?_⟩,I2.bs,le_trans I2.ok.xU I2.sz,λb o e hb=>?_,λb hb hf=>?_,I2.stack,I2.vI⟩
  ·show bB.heap.objs.size<=C;rw[hD];exact pZ
  ·exact ne_of_lt (lt_of_lt_of_le (Ah b hb) pZ)
  ·exact(f2 b hb).2.2.2.2.1 x c (B.sub x c e) z
  ·have h1:=f2 b hb;rcases h1.2.2.2.1 with z|z
   ·exact I2.ok.vU b o e z
   ·have h2:=(I2.ok.bs b o e).1;exact absurd (lt_of_lt_of_le (lt_size h2) z) (lt_irrefl _)
  ·rcases mem_cons.mp (Q9 b hf)with z|z
   ·exact(f2 b hb).2.1 z
   ·exact(f2 b hb).2.2.1 z
 have qX:∀a,D<=a->H2 a=none:=λa ha=>I2.bx.fresh (by rw[hD];exact ha);have I4:Inv (dt X scope cl N' C bB H2 fp) [] (bZ aW σ) H2 {bB with heap:=jm,toks:=bB.toks+([]:List (Str×Value)).length}:=by
  refine⟨ok,rfl,I2.bare,Un.kept old,⟨_,mR,λi x v e1 e2 e3=>?_⟩,λx c e=>?_,qX C pZ,λx c e=>I2.jB x c (B.sub x c e),λp hp=>absurd (show p∈([]:List (Addr×Obj))from hp) (by simp),I2.bx.kept old,?_⟩
  ·have De:N'[i]?=some x:=e1;unfold bZ at e2;rw[getElem?_map]at e2;cases pB:aW[i]? with
   |none=>rw[pB]at e2;cases e2
   |some o=>
    rw[pB]at e2;cases o with
    |none=>cases e2
    |some j=>
     obtain⟨hN,hv,hk,GP⟩:=B.aW i x j De pB;have e4:σ[j]?=some (some v):=by
      have e5:some ((σ[j]?).join)=some (some v):=e2;cases hq:σ[j]? with
      |none=>rw[hq]at e5;cases e5
      |some q=>rw[hq]at e5;exact e5
     obtain⟨m,hn,hl⟩:=I2.loc;obtain⟨u,r,l⟩:=hl j x v hN e4 hv;refine⟨u,r,.inr ⟨hk,?_⟩⟩;rcases l with⟨k,_⟩|⟨k,c,pW,o,ho,hd⟩
     ·exact absurd k GP
     ·obtain⟨c',iK⟩:=B.has x hk;have e6:=B.sub x c' iK;rw[pW]at e6;cases e6;exact⟨c,iK,o,old c o ho,hd⟩
  ·obtain⟨v,o,ho,hd⟩:=I2.cell x c (B.sub x c e);exact⟨v,o,old c o ho,hd⟩
  ·show(bZ aW σ).length=N'.length;unfold bZ;rw[length_map];exact B.len
 have tD:D≠C:=H0;have Qq:D∉lx X.stack:=λhb=>by
  obtain⟨_,o,ho,_⟩:=I2.stack.mem hb;have:=lt_size ho;rw[hD]at this;exact absurd this (lt_irrefl _)
 have mE:∀{P:List (Addr×Obj)} {H':Hp},(∀p∈P,p.1=D)->(∀b∈fp,H' b=none)->∀b∈fp,pQ (dt X scope cl N' C bB H2 fp) P H' b:=λhP hn b hb=>
  ⟨hn b hb,(ok.CS b hb).1,ok.wg b hb,.inl hb,(ok.CS b hb).2,λp hp z=>by
   have gz:p∈_:=hp;rw[hP p (by simpa using gz)]at z;exact Nat.ne_of_gt (Ah b hb) z⟩
 have loop:∀mC:Shared,mC={bB with heap:=jm,toks:=bB.toks+([]:List (Str×Value)).length}->
   codeAny (model X.prog X.w) X.A (.compLoop (.ListComp elt [⟨tg,iter,ifs,0⟩] scope pos) 0 (.ref it) (.ref D) (compEnvC scope cl C X.env))
    (compPost (model X.prog X.w) X.A X.xe (some (assign (.Name x pos') X.env)) (λ_ s'=>SP X pins DD .next s') (.ref D) C) mC:=by
  rintro mC rfl;refine rn (λn s'=>∃i ys ak H' k,Inv (dt X scope cl N' C bB H2 fp) [] (bZ aW σ) H' s'/\tn i s'.heap/\(∀b∈fp,H' b=none)/\H' D=none/\s'.heap.get? D=some {cls:=.type "list",data:=.seq (ak:List Value).toArray k}/\Vals ys ak/\W i n ys H') ?_ m0
   ⟨0,[],[],H2,0,I4,T.keep _ _ _ ke λb _ o e=>old b o e,λb hb=>(f2 b hb).1,qX D (le_refl _),w9,.nil,w0⟩
  rintro n s' ⟨i,ys,ak,H',k,Ia,F6,Hf,mU,Q6,rv,wa⟩;obtain⟨hsz,tu⟩:=turn i n ys H' wa;have Ib:Inv (dt X scope cl N' C bB H2 fp) [(D,{cls:=.type "list",data:=.seq ak.toArray k})] (bZ aW σ) H' s':=Ia.jV λp hp=>by
   have gz:p=(D,{cls:=.type "list",data:=.seq ak.toArray k}):=by simpa using hp
   subst gz;exact⟨Q6,mU,tD,Qq,λv z=>nomatch z⟩
  have A8:∀p∈[((D,{cls:=.type "list",data:=.seq ak.toArray k}):Addr×Obj)],p.1=D:=λp hp=>by
   have gz:p=(D,{cls:=.type "list",data:=.seq ak.toArray k}):=by simpa using hp
   rw[gz]
  rcases tu with⟨stop,qn⟩|⟨go,step⟩
  ·refine wpAny_mono (T.done (dt X scope cl N' C bB H2 fp) rfl rfl rfl hc i _ s' (bZ aW σ) H' (λ_ _=>False) Ib (mE A8 Hf) F6 stop) (λr s4 zV=>?_) λ_ _ z=>z.elim;obtain⟨hr,Ic⟩:=zV;subst hr;obtain⟨m,hn,_⟩:=Ic.loc;have Jx:s4.heap.get? D=some {cls:=.type "list",data:=.seq ak.toArray k}:=(Ic.pin (D,_) (by simp)).1;have Lu:H' C=none:=Ic.free;have un:Un (lx X.stack) fp H2 (upd H' D (.lst ys)) bB.heap s4.heap:=by
    have bs:=Ic.base;refine⟨λb o e n h1 h2=>bs.keep b o e n h1 h2,λb o e n h1 h2=>bs.slot b o e n h1 h2,λb o e n h2=>?_,λb o e h2=>bs.there b o e h2,λb xs e=>?_,λb o u e=>?_,λb ps e=>?_⟩
    ·have:b<D:=by rw[<- hD];exact lt_size e
     rw[bC (ne_of_lt this)];exact bs.free b o e n h2
    ·have q:=bs.nR b xs e;rw[bC (bz q mU)];exact q
    ·have q:=bs.lJ b o u e;rw[bC (bz q mU)];exact q
    ·obtain⟨more,q⟩:=bs.nU b ps e;exact⟨more,by rw[bC (bz q mU)];exact q⟩
   have bx:ij X.prog X.w (upd H' D (.lst ys)) s4.heap:=λb u e=>by
    by_cases hb:b=D
    ·subst hb;rw[eA]at e;cases e;exact⟨Nat.le_of_lt hsz,ak,k,rv,Jx⟩
    ·rw[bC hb]at e;exact(Ic.bx b u e).nV (λc v GY q=>q) (λc q=>by rw[bC (bz q mU)];exact q) λc xs q=>by rw[bC (bz q mU)];exact q
   have If:=I2.LH (s':=s4) (H':=upd H' D (.lst ys)) (ch:=fp) Ic.os un bx Ic.bare λb hb=>⟨(f2 b hb).2.2.2.1,(f2 b hb).2.1,(f2 b hb).2.2.2.2.1,(f2 b hb).2.2.2.2.2⟩;have Ua:C≠X.env.locals:=Nat.ne_of_gt (lt_of_lt_of_le (by rw[<- hD];exact I2.lt) pZ);have Ub:∀y c,X.env.cells.lookup y=some c->c≠C:=λy c e=>by
    obtain⟨v,q⟩:=I2.cell y c e;exact ne_of_lt (lt_of_lt_of_le (by rw[<- hD];exact q.lt) pZ)
   refine wpAny_assign_Name (wZ If hN zP hx (v:=.ref D) rfl (λs5 I5 pX=>?_) A0);obtain⟨aa,VR,Xy⟩:=pX;have Y9:C≠aa:=by
    rcases Xy with z|z
    ·rw[z];exact Ua
    ·exact Ne.symm (Ub x aa z)
   refine⟨m,hn.sameBut VR Y9,λh' pU=>?_⟩;have Ya:upd H' D (.lst ys) C=none:=by rw[bC (Ne.symm tD)];exact Lu
   have I6:Inv X pins (σ.set iz (some (.ref D))) (upd H' D (.lst ys)) {s5 with heap:=h',toks:=s5.toks}:=I5.turned (it:=C) (λb o hb e=>(pU.2 b hb).trans e) Ya Ua (.inr (le_trans I2.sz (by rw[hD];exact pZ))) Ub (λp hp z=>by
    have h1:=(I2.pin p hp).1;have h2:p.1<D:=by rw[<- hD];exact lt_size h1
    exact absurd z (ne_of_lt (lt_of_lt_of_le h2 pZ)))
   exact⟨_,_,I6,qn D mU⟩
  ·refine wpAny_mono (T.item (dt X scope cl N' C bB H2 fp) rfl rfl rfl hc i _ s' (bZ aW σ) H' (λ_ _=>False) Ib (mE A8 Hf) F6 go) (λr s4 zV=>?_) λ_ _ z=>z.elim;obtain⟨u,hr,h4⟩:=zV;subst hr;refine wpAny_mono h4 (λ_ s5 h5=>?_) λ_ _ z=>z.elim;obtain⟨x,H5,I5,r5,y5,qq,Hg⟩:=h5;have Ii:=I5.pinned (mE A8 Hg) (T.obj _ _ qq);refine wpAny_mono (hg C bB H2 fp _ s5 (bZ aW σ) H5 x u _ Ii r5 (step x H5 y5)) (λ_ s6 h6=>?_) λ_ _ z=>z.elim;obtain⟨ud,H6,I6,uN,q6⟩:=h6;refine wpAny_mono (ht C bB H2 fp _ s6 ud H6 _ I6 q6) (λb s7 h7=>?_) λ_ _ z=>z.elim;obtain⟨H7,I7,q7⟩:=h7

   have back:∀{bH:St} {vw:Hp} {oq:Shared},Inv (dt X scope cl N' C bB H2 fp) ([((D,{cls:=.type "list",data:=.seq ak.toArray k}):Addr×Obj)]++oA fp s5.heap) bH vw oq->
     oq.heap.get? D=some {cls:=.type "list",data:=.seq ak.toArray k}/\vw D=none/\(∀b∈fp,vw b=none)/\tn (i+1) oq.heap:=fun{bH vw oq} Iz=>by
    have pz:=λp hp=>Iz.pin p (mem_append_right _ hp);have pD:=pz (D,{cls:=.type "list",data:=.seq ak.toArray k}) (mem_append_left _ mem_cons_self);refine⟨pD.1,pD.2.1,λb hb=>?_,T.keep _ _ _ qq λb hb o e=>(pz (b,o) (mem_append_right _ (jb hb e))).1⟩;obtain⟨o,e,_⟩:=T.obj _ _ qq b hb;exact(pz (b,o) (mem_append_right _ (jb hb e))).2.1
   have hits:ak.length=ys.length:=rv.length.symm;cases b with
   |false=>
    rw[if_neg Bool.false_ne_true]at q7 ⊢;obtain⟨m',hm,w7⟩:=q7;obtain⟨b1,b2,b3,b4⟩:=back I7;exact⟨m',hm,i+1,ys,ak,H7,k,(I7.jV (pins':=[]) λp hp=>absurd hp (by simp)).weak uN.len uN.get,b4,b3,b2,b1,rv,w7⟩
   |true=>
    rw[if_pos rfl]at q7 ⊢;refine wpAny_mono (he C bB H2 fp _ s7 ud H7 _ I7 q7) (λy s8 h8=>?_) λ_ _ z=>z.elim;obtain⟨v,H8,I8,r8,m',hm,w8⟩:=h8;obtain⟨b1,b2,b3,b4⟩:=back I8;refine wpAny_list_append_plain (l:=D) (items:=ak.toArray) (hsz:=by rw[size_toArray];omega) ⟨k,b1⟩ λh' jw pU=>?_;obtain⟨k',e'⟩:=jw;have I9:Inv (dt X scope cl N' C bB H2 fp) [] ud H8 {s8 with heap:=h',toks:=s8.toks}:=(I8.jV (pins':=[]) λp hp=>absurd hp (by simp)).turned (it:=D) (λb o hb e=>(pU.2 b hb).trans e) b2 tD (.inr (le_of_eq hD))
     (λx c e=>ne_of_lt (Es x c e)) (λp hp=>absurd (show p∈([]:List (Addr×Obj))from hp) (by simp))
    refine⟨m',hm,i+1,ys++[v],ak++[y],H8,k',I9.weak uN.len uN.get,T.keep _ _ _ b4 λb hb o e=>(pU.2 b (ne_of_lt (Ah b hb))).trans e,b3,b2,?_,rv.append (.cons r8 .nil),w8⟩;have Hv:h'.get? D=_:=e';rw[List.push_toArray]at Hv;exact Hv
 exact codeAny_compStart_list (loop _ rfl) (T.self X.A 0 _ _ _ (T.keep _ _ _ ke λb _ o e=>old b o e) (loop _ rfl))
end
end L2
namespace L3
noncomputable section
open PySem PySem.Spec PyProof.Rows L2
open PySem.W (Dat kqdOk kqdP kqdPs kqd_lay kqd_eqv)
abbrev Fg:=Frag
abbrev gg:=Addr->Prop
abbrev ar:=List (Option Dat)
def EF (K:Fg) (H:Hp) (Av:gg) (a:Addr) (xs:List V):Prop:=
 (Rd H a (.tup xs)/\¬Av a)\/∃(o:Obj) (ak:Array Value) (n:Nat),K.lookup a=some o/\o.cls=.type "tuple"/\o.data=.seq ak n/\ak.size<=sizeLine/\Vals xs ak.toList
def EG (K:Fg) (H:Hp) (Av:gg) (a:Addr) (xs:List V):Prop:=
 (Rd H a (.lst xs)/\¬Av a)\/∃(o:Obj) (ak:Array Value) (n:Nat),K.lookup a=some o/\o.cls=.type "list"/\o.dict=none/\o.data=.seq ak n/\ak.size<=sizeLine/\Vals xs ak.toList
variable {K:Fg} {H:Hp} {Av:gg} {a:Addr} {xs:List V}
theorem EF.sq(h:EF K H Av a xs):iN K H a xs:=h.elim (λz=>.inl z.1) .inr
theorem EG.sq(h:EG K H Av a xs):fK K H a xs:=h.elim (λz=>.inl z.1) .inr
mutual
inductive aU (K:Fg) (H:Hp) (Av:gg):V->Dat->Prop
 |bO:aU K H Av .bO .none
 |bl (b:Bool):aU K H Av (.bl b) (.bool b)
 |int (i:Int):aU K H Av (.int i) (.int i)
 |str (x:Str):aU K H Av (.str x) (.str x)
 |tup {a:Addr} {xs:List V} {ds:List Dat}:EF K H Av a xs->az K H Av xs ds->aU K H Av (.ref a) (.tuple ds)
 |lst {a:Addr} {xs:List V} {ds:List Dat}:EG K H Av a xs->az K H Av xs ds->aU K H Av (.ref a) (.list ds)
inductive az (K:Fg) (H:Hp) (Av:gg):List V->List Dat->Prop
 |nil:az K H Av [] []
 |cons {v:V} {vs:List V} {d:Dat} {ds:List Dat}:aU K H Av v d->az K H Av vs ds->az K H Av (v::vs) (d::ds)
end
variable {iO:gg} {H':Hp}
def lN (H:Hp) (Av:gg) (H':Hp) (iO:gg):Prop:=∀b o,H b=some o->¬Av b->H' b=some o/\¬iO b
theorem BS(k:lN H Av H' iO){u:HO}(h:Rd H a u/\¬Av a):Rd H' a u/\¬iO a:=by
 obtain⟨h,n⟩:=h;rcases h with h|⟨o,h⟩
 ·exact⟨.inl (k _ _ h n).1,(k _ _ h n).2⟩
 ·exact⟨.inr ⟨o,(k _ _ h n).1⟩,(k _ _ h n).2⟩
mutual
theorem aU.mono(k:lN H Av H' iO):∀{v:V} {d:Dat},aU K H Av v d->aU K H' iO v d
 |_,_,.bO=>.bO
 |_,_,.bl b=>.bl b
 |_,_,.int i=>.int i
 |_,_,.str x=>.str x
 |_,_,.tup h r=>.tup (h.elim (λz=>.inl (BS k z)) .inr) (az.mono k r)
 |_,_,.lst h r=>.lst (h.elim (λz=>.inl (BS k z)) .inr) (az.mono k r)
theorem az.mono (k:lN H Av H' iO):∀{vs:List V} {ds:List Dat},az K H Av vs ds->az K H' iO vs ds
 |_,_,.nil=>.nil
 |_,_,.cons h r=>.cons (aU.mono k h) (az.mono k r)
end
theorem xx(e:bg H H'):lN H Av H' Av:=λb o h n=>⟨e b o h,n⟩
theorem xw(w:∀a,iO a->Av a):lN H Av H iO:=λb o h n=>⟨h,λz=>n (w _ z)⟩
theorem aU.same(e:bg H H'){v:V}{d:Dat}(r:aU K H Av v d):aU K H' Av v d:=r.mono (xx e)
theorem az.same(e:bg H H'){v:List V}{d:List Dat}(r:az K H Av v d):az K H' Av v d:=r.mono (xx e)
theorem aU.weak(w:∀a,iO a->Av a){v:V}{d:Dat}(r:aU K H Av v d):aU K H iO v d:=r.mono (xw w)
theorem az.weak(w:∀a,iO a->Av a){v:List V}{d:List Dat}(r:az K H Av v d):az K H iO v d:=r.mono (xw w)
theorem az.length:∀{vs:List V} {ds:List Dat},az K H Av vs ds->vs.length=ds.length
 |_,_,.nil=>rfl
 |_,_,.cons _ r=>congrArg (· + 1) (az.length r)
theorem az.get:∀{vs:List V} {ds:List Dat} {i:Nat} {d:Dat},az K H Av vs ds->ds[i]?=some d->∃v,vs[i]?=some v/\aU K H Av v d
 |_,_,_,_,.nil,e=>by simp at e
 |_,_,0,_,.cons h _,e=>by simp at e;subst e;exact⟨_,rfl,h⟩
 |_,_,i+1,d,.cons _ r,e=>by
  obtain⟨v,h1,h2⟩:=az.get (i:=i) (d:=d) r (by simpa using e);exact⟨v,by simpa using h1,h2⟩
theorem az.append:∀{vs ws:List V} {ds es:List Dat},az K H Av vs ds->az K H Av ws es->az K H Av (vs++ws) (ds++es)
 |_,_,_,_,.nil,s=>s
 |_,_,_,_,.cons h r,s=>.cons h (az.append r s)
theorem az.take:∀{vs:List V} {ds:List Dat} (n:Nat),az K H Av vs ds->az K H Av (vs.take n) (ds.take n)
 |_,_,0,_=>.nil
 |_,_,_+1,.nil=>.nil
 |_,_,n+1,.cons r t=>.cons r (az.take n t)
theorem az.drop:∀{vs:List V} {ds:List Dat} (n:Nat),az K H Av vs ds->az K H Av (vs.drop n) (ds.drop n)
 |_,_,0,r=>r
 |_,_,_+1,.nil=>.nil
 |_,_,n+1,.cons _ t=>az.drop n t
theorem az.ints(ns:List Int):az K H Av (ns.map V.int) (ns.map Dat.int):=by
 induction ns with
 |nil=>exact .nil
 |cons n ns ih=>exact .cons (.int n) ih
variable {p:Addr}
theorem bM(h:H p=none)(o:HO):bg H (upd H p o):=λb u q=>by rw[bC (bz q h)];exact q
def gG (H:Hp) (Av:gg):Prop:=∀a,Av a->∃o,H a=some o
theorem gG.same(e:bg H H')(h:gG H Av):gG H' Av:=λa z=>let ⟨o,q⟩:=h a z;⟨o,e a o q⟩
theorem gG.new(h:gG H Av)(e:H p=none):¬Av p:=λz=>by
 obtain⟨o,q⟩:=h p z;rw[e]at q;cases q
variable {ds:List Dat}
theorem aU.pd(h:gG H Av)(e:H p=none)(r:az K H Av xs ds):aU K (upd H p (.tup xs)) Av (.ref p) (.tuple ds):=
 .tup (.inl ⟨.inl eA,h.new e⟩) (r.same (bM e _))
theorem aU.nZ(h:gG H Av)(e:H p=none)(r:az K H Av xs ds):aU K (upd H p (.lst xs)) Av (.ref p) (.list ds):=
 .lst (.inl ⟨.inl eA,h.new e⟩) (r.same (bM e _))
def fg (K:Fg) (H:Hp) (Av:gg) (σ:L2.St) (ρ:ar):Prop:=∀(i:Nat) (d:Dat),ρ[i]?=some (some d)->∃v,σ[i]?=some (some v)/\aU K H Av v d
variable {ρ:ar}
theorem fg.same{σ:L2.St}(e:bg H H')(h:fg K H Av σ ρ):fg K H' Av σ ρ:=λi d q=>let ⟨v,a,r⟩:=h i d q;⟨v,a,r.same e⟩
def tF (K:Fg) (f:ar->Option Dat):TE:=λσ H Q=>∃Av ρ d,gG H Av/\fg K H Av σ ρ/\f ρ=some d/\∀v H',bg H H'->aU K H' Av v d->Q v H'
def nj (K:Fg) (f:ar->Option Bool):TT:=λσ H Q=>∃Av ρ b,gG H Av/\fg K H Av σ ρ/\f ρ=some b/\∀H',bg H H'->Q b H'
def Ko (K:Fg) (f:ar->Option (List Dat)):TA:=λσ H Q=>∃Av ρ ds,gG H Av/\fg K H Av σ ρ/\f ρ=some ds/\∀vs H',bg H H'->az K H' Av vs ds->Q vs H'
abbrev PF (X:Cx) (e:Expr) (f:ar->Option Dat):Prop:=PE X e (tF X.K f)
abbrev YM (X:Cx) (e:Expr) (f:ar->Option Bool):Prop:=PT X e (nj X.K f)
abbrev LR (X:Cx) (e:List Expr) (f:ar->Option (List Dat)):Prop:=PA X e (Ko X.K f)
variable {e:Expr} {X:Cx}
theorem bp{t t':TE}(h:PE X e t)(m:∀σ H Q,t' σ H Q->t σ H Q):PE X e t':=λpins s σ H Q I q=>h pins s σ H Q I (m σ H Q q)
theorem rT{t t':TT}(h:PT X e t)(m:∀σ H Q,t' σ H Q->t σ H Q):PT X e t':=λpins s σ H Q I q=>h pins s σ H Q I (m σ H Q q)
theorem C4{t t':TT}(h:PW X e t)(m:∀σ H Q,t' σ H Q->t σ H Q):PW X e t':=λw pins s σ H Q I q=>h w pins s σ H Q I (m σ H Q q)
variable {es:List Expr}
theorem rY{t t':TA}(h:PA X es t)(m:∀σ H Q,t' σ H Q->t σ H Q):PA X es t':=λp pins s σ H Q I q=>h p pins s σ H Q I (m σ H Q q)
def aN (i:Nat):ar->Option Dat:=λρ=>(ρ[i]?).join
def fC (d:Dat):ar->Option Dat:=λ_=>some d
variable {d:Dat}
theorem join_some{o:Option (Option Dat)}(h:o.join=some d):o=some (some d):=by
 cases o with
 |none=>cases h
 |some q=>exact congrArg some h
variable {fa fb:ar->Option Dat} {a b:Expr}
def f2 (g:Dat->Dat->Option Dat) (fa fb:ar->Option Dat):ar->Option Dat:=λρ=>(fa ρ).bind λa=>(fb ρ).bind λb=>g a b
def lU (K:Fg) (r:R2) (g:Dat->Dat->Option Dat):Prop:=∀(H:Hp) (Av:gg) (x y:V) (dx dy d:Dat) (Q:VK),gG H Av->aU K H Av x dx->aU K H Av y dy->g dx dy=some d->(∀v H',bg H H'->aU K H' Av v d->Q v H')->r x y H Q
variable {α:Type}
theorem bind_some{β:Type}{o:Option α}{g:α->Option β}{b:β}(h:o.bind g=some b):∃a,o=some a/\g a=some b:=by
 cases o with
 |none=>cases h
 |some a=>exact⟨a,rfl,h⟩
variable {r:R2} {g:Dat->Dat->Option Dat}
theorem yb(hr:lU K r g):∀σ H Q,tF K (f2 g fa fb) σ H Q->BG r (tF K fa) (tF K fb) σ H Q:=by
 rintro σ H Q ⟨Av,ρ,d,hA,hE,hf,q⟩;obtain⟨dx,e1,hf⟩:=bind_some hf;obtain⟨dy,e2,hf⟩:=bind_some hf;refine⟨Av,ρ,dx,hA,hE,e1,λx H1 s1 r1=>⟨Av,ρ,dy,hA.same s1,hE.same s1,e2,λy H2 s2 r2=>?_⟩⟩;exact hr H2 Av x y dx dy d Q (hA.same (s1.trans s2)) (r1.same s2) r2 hf λv H' s3 r3=>q v H' (s1.trans (s2.trans s3)) r3
variable {pos:Pos}
theorem lu{op:Operator}(ho:dS X (binaryOp op) r)(hd:lU X.K r g)(ha:PF X a fa)(hb:PF X b fb):PF X (.BinOp a op b pos) (f2 g fa fb):=bp (yg ho ha hb) (yb hd)
theorem uK{op:CmpOp}(ho:dS X (compareOp op) r)(hd:lU X.K r g)(ha:PF X a fa)(hb:PF X b fb)(hm:behindInMarks op b=false):PF X (.Compare a [op] [b] pos) (f2 g fa fb):=bp (MF ho ha hb hm) (yb hd)
def lF:Dat->Option Bool
 | .bool b=>some b
 |_=>none
variable {f:ar->Option Dat}
def bS (f:ar->Option Dat):ar->Option Bool:=λρ=>(f ρ).bind lF
theorem n6{b:Bool}(h:lF d=some b):d=.bool b:=by
 cases d<;>first|(cases h;done)|(simp only[lF,Option.some.injEq]at h;rw[h])
variable {v:V}
theorem aU.l9{b:Bool}(h:aU K H Av v (.bool b)):v=.bl b:=by cases h;rfl
theorem aU.cQ{b:Int}(h:aU K H Av v (.int b)):v=.int b:=by cases h;rfl
theorem aU.iF{b:Str}(h:aU K H Av v (.str b)):v=.str b:=by cases h;rfl
theorem aU.Sh(h:aU K H Av v .none):v=.bO:=by cases h;rfl
theorem aU.fj(h:aU K H Av v (.tuple ds)):∃a xs,v=.ref a/\EF K H Av a xs/\az K H Av xs ds:=by cases h with|tup h r=>exact⟨_,_,rfl,h,r⟩
theorem aU.g9(h:aU K H Av v (.list ds)):∃a xs,v=.ref a/\EG K H Av a xs/\az K H Av xs ds:=by cases h with|lst h r=>exact⟨_,_,rfl,h,r⟩
theorem M6{t:TE}(m:∀σ H Q,tF K f σ H Q->t σ H Q):∀σ H Q,nj K (bS f) σ H Q->Kl t σ H Q:=by
 rintro σ H Q ⟨Av,ρ,b,hA,hE,hf,q⟩;obtain⟨d,e1,hf⟩:=bind_some hf;have e2:=n6 hf;subst e2;exact m σ H _ ⟨Av,ρ,.bool b,hA,hE,e1,λv H' s r=>⟨b,r.l9,q H' s⟩⟩
theorem jW{op:CmpOp}(ho:dS X (compareOp op) r)(hd:lU X.K r g)(ha:PF X a fa)(hb:PF X b fb)(hm:behindInMarks op b=false):YM X (.Compare a [op] [b] pos) (bS (f2 g fa fb)):=rT (C6 ho ha hb hm) (M6 (yb hd))
def nS:Dat->Option Bool
 | .none=>some false
 | .bool b=>some b
 | .int i=>some (i !=0)
 | .str y=>if y.length<=sizeLine then some ((y.length:Int) !=0)else none
 | .list ds=>some (!ds.isEmpty)
 | .tuple ds=>some (!ds.isEmpty)
 |_=>none
def lK (f:ar->Option Dat):ar->Option Bool:=λρ=>(f ρ).bind nS
variable {vs:List V}
theorem az.emp(h:az K H Av vs ds):ds.isEmpty=vs.isEmpty:=by cases h<;>rfl
theorem NW{k:Bool}(r:aU K H Av v d)(h:nS d=some k):K3 K v H k:=by
 cases r with
 |bO=>cases h;exact rfl
 |bl b=>cases h;exact rfl
 |int i=>cases h;exact rfl
 |str x=>
  simp only[nS]at h;split at h
  ·rename_i hz;cases h;exact⟨hz,rfl⟩
  ·cases h
 |tup hq rs=>cases h;exact .inr (.inl ⟨_,hq.sq,by rw[rs.emp]⟩)
 |lst hq rs=>cases h;exact .inl ⟨_,hq.sq,by rw[rs.emp]⟩
variable {c:Expr}
def jC (f g:ar->Option Bool):ar->Option Bool:=λρ=>(f ρ).bind λc=>if c=true then g ρ else some false
def jo (f g:ar->Option Bool):ar->Option Bool:=λρ=>(f ρ).bind λc=>if c=true then some true else g ρ
def mf (f:ar->Option Bool):ar->Option Bool:=λρ=>(f ρ).map (!·)
abbrev Zn (X:Cx) (e:Expr) (f:ar->Option Bool):Prop:=PW X e (nj X.K f)
def o9 (f g:ar->Option Dat):ar->Option Dat:=λρ=>(f ρ).bind λd=>(lF d).bind λc=>if c=true then g ρ else some (.bool false)
def sR (f g:ar->Option Dat):ar->Option Dat:=λρ=>(f ρ).bind λd=>(lF d).bind λc=>if c=true then some (.bool true)else g ρ
def rf (f:ar->Option Dat):ar->Option Dat:=λρ=>(f ρ).bind λd=>(lF d).map λc=>.bool (!c)
variable {ft:ar->Option Bool}
def vc (ft:ar->Option Bool) (f g:ar->Option Dat):ar->Option Dat:=λρ=>(ft ρ).bind λc=>if c=true then f ρ else g ρ
def f1 (g:Dat->Option Dat) (fa:ar->Option Dat):ar->Option Dat:=λρ=>(fa ρ).bind g
def YI (K:Fg) (r:V->Hp->VK->Prop) (g:Dat->Option Dat):Prop:=∀(H:Hp) (Av:gg) (x:V) (dx d:Dat) (Q:VK),gG H Av->aU K H Av x dx->g dx=some d->(∀v H',bg H H'->aU K H' Av v d->Q v H')->r x H Q
theorem S5{op:UnaryOp}{r:V->Hp->VK->Prop}{g:Dat->Option Dat}(ho:LL X (unaryOp op) r)(hd:YI X.K r g)(ha:PF X a fa):PF X (.UnaryOp op a pos) (f1 g fa):=bp (S6 ho ha) λσ H Q aP=>by
 obtain⟨Av,ρ,d,hA,hE,hf,q⟩:=aP;obtain⟨dx,e1,hf⟩:=bind_some hf;exact⟨Av,ρ,dx,hA,hE,e1,λx H1 s1 r1=>hd H1 Av x dx d Q (hA.same s1) r1 hf λv H2 s2 r2=>q v H2 (s1.trans s2) r2⟩
def cG:ar->Option (List Dat):=λ_=>some []
def bh (f:ar->Option Dat) (g:ar->Option (List Dat)):ar->Option (List Dat):=λρ=>(f ρ).bind λd=>(g ρ).map (d::·)
theorem ba{β:Type}{o:Option α}{g:α->β}{b:β}(h:o.map g=some b):∃a,o=some a/\g a=b:=by
 cases o with
 |none=>cases h
 |some a=>exact⟨a,rfl,Option.some.inj h⟩
def kx (g:ar->Option (List Dat)):ar->Option Dat:=λρ=>(g ρ).bind λds=>if ds.length<=sizeLine then some (.tuple ds)else none
def o8 (g:ar->Option (List Dat)):ar->Option Dat:=λρ=>(g ρ).bind λds=>if ds.length<=sizeLine then some (.list ds)else none
variable {fs:ar->Option (List Dat)} in
def i7 (g:List Dat->Option Dat) (fs:ar->Option (List Dat)):ar->Option Dat:=λρ=>(fs ρ).bind g
def nO (K:Fg) (r:List V->Hp->VK->Prop) (g:List Dat->Option Dat):Prop:=∀(H:Hp) (Av:gg) (xs:List V) (ds:List Dat) (d:Dat) (Q:VK),gG H Av->az K H Av xs ds->g ds=some d->(∀v H',bg H H'->aU K H' Av v d->Q v H')->r xs H Q
variable {r:List V->Hp->VK->Prop} {g:List Dat->Option Dat}
variable {fs:ar->Option (List Dat)} in
theorem BH(hr:nO K r g):∀σ H Q,tF K (i7 g fs) σ H Q->Kq r (Ko K fs) σ H Q:=by
 rintro σ H Q ⟨Av,ρ,d,hA,hE,hf,q⟩;obtain⟨ds,e1,hf⟩:=bind_some hf;exact⟨Av,ρ,ds,hA,hE,e1,λxs H1 s1 r1=>hr H1 Av xs ds d Q (hA.same s1) r1 hf λv H2 s2 r2=>q v H2 (s1.trans s2) r2⟩
variable {x:Str}
variable {fs:ar->Option (List Dat)} in
theorem zg{p:Pos}{id:String}(hc:kH X (.builtin id) r)(hd:nO X.K r g)(hm:X.mg x=none)(ha:LR X (e::es) fs)(hg:Gl X x:=by rfl)(hv:bootBuiltins x=some (.builtin id):=by rfl)(hn:x≠"__name__":=by decide)(jx:(x==("__debug__" : Str))=false:=by decide)(he:starEach (e::es) X.env=(false,eval e X.env)::starEach es X.env:=by rfl)(dO:(backTo pos (starEach es X.env)).any (·.1)=false:=by rfl):PF X (.Call (.Name x p) (e::es) [] pos) (i7 g fs):=bp (zi hc hg hm hv ha hn jx he dO) (BH hd)
variable {T:String}
variable {fs:ar->Option (List Dat)} in
theorem FZ{p:Pos}(hc:kH X (.type T) r)(hd:nO X.K r g)(hm:X.mg x=none)(ha:LR X (e::es) fs)(hg:Gl X x:=by rfl)(hv:bootBuiltins x=some (.type T):=by rfl)(hn:x≠"__name__":=by decide)(jx:(x==("__debug__" : Str))=false:=by decide)(he:starEach (e::es) X.env=(false,eval e X.env)::starEach es X.env:=by rfl)(dO:(backTo pos (starEach es X.env)).any (·.1)=false:=by rfl):PF X (.Call (.Name x p) (e::es) [] pos) (i7 g fs):=bp (nA hc hg hm hv ha hn jx he dO) (BH hd)
def F8 (K:Fg) (n:Nat) (F:List Dat->Option Dat):Sp:=λvs H Q _=>∃Av ds d,gG H Av/\az K H Av vs ds/\ds.length=n/\F ds=some d/\∀v H',bg H H'->aU K H' Av v d->Q v H'
variable {fs:ar->Option (List Dat)} in
def kK (n:Nat) (F:List Dat->Option Dat) (fs:ar->Option (List Dat)):ar->Option Dat:=λρ=>(fs ρ).bind λds=>if ds.length=n then F ds else none
variable {n:Nat} {F:List Dat->Option Dat}
variable {fs:ar->Option (List Dat)} in
theorem RS{E:XK}:∀σ H Q,tF K (kK n F fs) σ H Q->Kp (F8 K n F) [] E (Ko K fs) σ H Q:=by
 rintro σ H Q ⟨Av,ρ,d,hA,hE,hf,q⟩;obtain⟨ds,e1,hf⟩:=bind_some hf;split at hf
 ·rename_i hl;exact⟨Av,ρ,ds,hA,hE,e1,λxs H1 s1 r1=>⟨Av,ds,d,hA.same s1,by rw[append_nil];exact r1,hl,hf,λv H2 s2 r2=>q v H2 (s1.trans s2) r2⟩⟩
 ·cases hf
structure Dn (P:Program) (w:World) (K:Fg) (mg:Str->Option Value) (base:Heap) (k:Nat) (x:Str) (ps:List Str) (n:Nat) (F:List Dat->Option Dat):Prop where
 ex:∃(f:Addr) (fd:FuncData),gJ P w K mg base jj k f fd ps (F8 K n F)/\mg x=some (.ref f)/\keepIn K (.ref f)=true/\Binds K fd ps []
variable {P:Program} {w:World} {mg:Str->Option Value} {base:Heap} {ps:List Str}
theorem Dn.up{j k:Nat}(D:Dn P w K mg base j x ps n F)(h:j<=k):Dn P w K mg base k x ps n F:=by
 obtain⟨f,fd,h1,h2⟩:=D.ex;exact⟨f,fd,h1.mono h,h2⟩
open PySem PySem.Spec PyProof.Rows L2
open PySem.W (Dat)
inductive Slot where
 |a7 (d:Dat)
 |own (ds:List Dat)
 |obj (O:Addr->List V->Heap->Prop) (ds:List Dat)
def Slot.mt:Slot->Bool
 | .a7 _=>false
 |_=>true
abbrev aw:=List (Option Slot)
def bj (Γ:aw):ar:=Γ.map λo=>match o with|some (.a7 d)=>some d|_=>none
def c7 (Γ:aw):ar:=Γ.map λo=>match o with|some (.a7 d)=>some d|some (.own ds)=>some (.list ds)|_=>none
def aO (Av:gg) (Γ:aw) (ad:Nat->Addr):gg:=λa=>Av a\/∃(i:Nat) (s:Slot),Γ[i]?=some (some s)/\s.mt=true/\ad i=a
abbrev Hid:=List (V×Dat)
structure GA (K:Fg) (ah:Hp) (Av:gg) (pn:Option Addr) (aF:Hid) (H:Hp) (σ:L2.St) (Γ:aw) (ad:Nat->Addr):Prop where
 same:bg ah H
 j5:gG ah Av
 len:σ.length=Γ.length
 a7:∀(i:Nat) (d:Dat),Γ[i]?=some (some (.a7 d))->∃v,σ[i]?=some (some v)/\aU K H (aO Av Γ ad) v d
 own:∀(i:Nat) (ds:List Dat),Γ[i]?=some (some (.own ds))->∃xs,σ[i]?=some (some (.ref (ad i)))/\H (ad i)=some (.lst xs)/\az K H (aO Av Γ ad) xs ds/\ah (ad i)=none
 inj:∀(i j:Nat) (s t:Slot),Γ[i]?=some (some s)->Γ[j]?=some (some t)->s.mt=true->t.mt=true->ad i=ad j->i=j
 aF:∀p∈aF,aU K H (aO Av Γ ad) p.1 p.2
 pin:∀a ds,pn=some a->Γ[0]?=some (some (.own ds))->ad 0=a
 obj:∀(i:Nat) (O:Addr->List V->Heap->Prop) (ds:List Dat),Γ[i]?=some (some (.obj O ds))->∃xs,σ[i]?=some (some (.ref (ad i)))/\H (ad i)=some (.ext (O (ad i) xs))/\az K H (aO Av Γ ad) xs ds/\ah (ad i)=none
def lO (K:Fg) (ah:Hp) (Av:gg) (pn:Option Addr) (aF:Hid) (H:Hp) (σ:L2.St) (Γ:aw):Prop:=∃ad,GA K ah Av pn aF H σ Γ ad
variable {ah:Hp} {pn:Option Addr} {σ:L2.St} {aF:Hid} {ad:Nat->Addr} {Γ:aw} {i:Nat}
theorem GA.mt(G:GA K ah Av pn aF H σ Γ ad){s:Slot}(h:Γ[i]?=some (some s))(m:s.mt=true):(∃o,H (ad i)=some o)/\ah (ad i)=none:=by
 cases s with
 |a7 d=>cases m
 |own ds=>obtain⟨xs,_,a,_,b⟩:=G.own i ds h;exact⟨⟨_,a⟩,b⟩
 |obj O ds=>obtain⟨xs,_,a,_,b⟩:=G.obj i O ds h;exact⟨⟨_,a⟩,b⟩
theorem GA.Pl(G:GA K ah Av pn aF H σ Γ ad)(i j:Nat)(ds es:List Dat)(h1:Γ[i]?=some (some (.own ds)))(h2:Γ[j]?=some (some (.own es)))(e:ad i=ad j):i=j:=G.inj i j _ _ h1 h2 rfl rfl e
theorem GA.gf(G:GA K ah Av pn aF H σ Γ ad):gG H (aO Av Γ ad):=by
 rintro a (z|⟨i,s,e,m,rfl⟩)
 ·exact(G.j5.same G.same) a z
 ·exact(G.mt e m).1
theorem GA.j3(G:GA K ah Av pn aF H σ Γ ad):fg K H (aO Av Γ ad) σ (bj Γ):=λi d e=>by
 unfold bj at e;rw[getElem?_map]at e;cases h:Γ[i]? with
 |none=>rw[h]at e;cases e
 |some o=>
  rw[h]at e;cases o with
  |none=>cases e
  |some s=>
   cases s with
   |a7 d'=>cases e;exact G.a7 i d h
   |own ds=>cases e
   |obj O ds=>cases e
theorem GA.rh(G:GA K ah Av pn aF H σ Γ ad):fg K H Av σ (c7 Γ):=λi d e=>by
 unfold c7 at e;rw[getElem?_map]at e;cases h:Γ[i]? with
 |none=>rw[h]at e;cases e
 |some o=>
  rw[h]at e;cases o with
  |none=>cases e
  |some s=>
   cases s with
   |a7 d'=>
    cases e;obtain⟨v,h1,h2⟩:=G.a7 i d h;exact⟨v,h1,h2.weak λ_ z=>.inl z⟩
   |own ds=>
    cases e;obtain⟨xs,h1,h2,h3,h4⟩:=G.own i ds h;refine⟨_,h1,.lst (.inl ⟨.inl h2,λz=>?_⟩) (h3.weak λ_ z=>.inl z)⟩;obtain⟨o,q⟩:=G.j5 _ z;rw[h4]at q;cases q
   |obj O ds=>cases e
theorem GA.grow(G:GA K ah Av pn aF H σ Γ ad)(e:bg H H'):GA K ah Av pn aF H' σ Γ ad:=
 ⟨G.same.trans e,G.j5,G.len,λi d h=>let ⟨v,a,r⟩:=G.a7 i d h;⟨v,a,r.same e⟩,λi ds h=>let ⟨xs,a,b,r,c⟩:=G.own i ds h;⟨xs,a,e _ _ b,r.same e,c⟩,G.inj,λp hp=>(G.aF p hp).same e,G.pin,λi O ds h=>let ⟨xs,a,b,r,c⟩:=G.obj i O ds h;⟨xs,a,e _ _ b,r.same e,c⟩⟩
theorem aS{l:List α}{j:Nat}{a b:α}(h:(l.set i a)[j]?=some b):(j=i/\b=a)\/(j≠i/\l[j]?=some b):=by
 by_cases e:j=i
 ·subst e;left
  refine⟨rfl,?_⟩;by_cases hl:j<l.length
  ·rw[getElem?_set_self hl]at h;exact(Option.some.inj h).symm
  ·rw[List.getElem?_eq_none (by rw[length_set];omega)]at h;cases h
 ·right
  rw[getElem?_set_ne (Ne.symm e)]at h;exact⟨e,h⟩
theorem ey{l:List α}{a:α}(h:l[i]?=some a):i<l.length:=(List.getElem?_eq_some_iff.mp h).1
theorem aO.fO:∀a,aO Av (Γ.set i (some (.a7 d))) ad a->aO Av Γ ad a:=by
 rintro a (z|⟨j,s,e,m,r⟩)
 ·exact .inl z
 ·rcases aS e with⟨_,q⟩|⟨_,q⟩
  ·cases q;cases m
  ·exact .inr ⟨j,s,q,m,r⟩
theorem GA.set(G:GA K ah Av pn aF H σ Γ ad)(i:Nat)(r:aU K H (aO Av Γ ad) v d):GA K ah Av pn aF H (σ.set i (some v)) (Γ.set i (some (.a7 d))) ad:=by
 refine⟨G.same,G.j5,by rw[length_set,length_set];exact G.len,λj d' h=>?_,λj ds h=>?_,λj k s t h1 h2 m1 m2 e=>?_,λp hp=>(G.aF p hp).weak aO.fO,λa ds e h=>?_,λj O ds h=>?_⟩
 ·have eV:=ey h;rw[length_set]at eV;rcases aS h with⟨e,q⟩|⟨e,q⟩
  ·subst e;cases q;exact⟨v,getElem?_set_self (by rw[G.len];exact eV),r.weak aO.fO⟩
  ·obtain⟨u,a,b⟩:=G.a7 j d' q;exact⟨u,by rw[getElem?_set_ne (Ne.symm e)];exact a,b.weak aO.fO⟩
 ·rcases aS h with⟨e,q⟩|⟨e,q⟩
  ·cases q
  ·obtain⟨xs,a,b,c,e'⟩:=G.own j ds q;exact⟨xs,by rw[getElem?_set_ne (Ne.symm e)];exact a,b,c.weak aO.fO,e'⟩
 ·rcases aS h1 with⟨_,q⟩|⟨_,q1⟩
  ·cases q;cases m1
  rcases aS h2 with⟨_,q⟩|⟨_,q2⟩
  ·cases q;cases m2
  exact G.inj j k s t q1 q2 m1 m2 e
 ·rcases aS h with⟨_,q⟩|⟨_,q⟩
  ·cases q
  ·exact G.pin a ds e q
 ·rcases aS h with⟨e,q⟩|⟨e,q⟩
  ·cases q
  ·obtain⟨xs,a,b,c,e'⟩:=G.obj j O ds q;exact⟨xs,by rw[getElem?_set_ne (Ne.symm e)];exact a,b,c.weak aO.fO,e'⟩
theorem GA.O8(G:GA K ah Av pn aF H σ Γ ad)(i:Nat)(oH:i≠0)(hp:H p=none)(r:az K H (aO Av Γ ad) xs ds):
  GA K ah Av pn aF (upd H p (.lst xs)) (σ.set i (some (.ref p))) (Γ.set i (some (.own ds))) (λj=>if j=i then p else ad j):=by
 have sm:bg H (upd H p (.lst xs)):=bM hp _;have Gp:∀j s,Γ[j]?=some (some s)->Slot.mt s=true->ad j≠p:=λj s h m=>by
  obtain⟨⟨o,b⟩,_⟩:=G.mt h m;exact bz b hp
 have kp:lN H (aO Av Γ ad) (upd H p (.lst xs)) (aO Av (Γ.set i (some (.own ds))) (λj=>if j=i then p else ad j)):=by
  intro b o h n;refine⟨sm b o h,?_⟩;rintro(z|⟨j,es,e,m,r⟩)
  ·exact n (.inl z)
  ·rcases aS e with⟨e1,_⟩|⟨e1,q⟩
   ·have r':p=b:=by simpa [e1]using r
    exact bz h hp r'.symm
   ·have r':ad j=b:=by simpa [e1]using r
    exact n (.inr ⟨j,es,q,m,r'⟩)
 have J6:∀{vs:List V} {d:List Dat},az K H (aO Av Γ ad) vs d->az K (upd H p (.lst xs)) (aO Av (Γ.set i (some (.own ds))) (λj=>if j=i then p else ad j)) vs d:=λh=>h.mono kp
 ·refine⟨G.same.trans sm,G.j5,by rw[length_set,length_set];exact G.len,λj d' h=>?_,λj es h=>?_,λj l es fs h1 h2 m1 m2 e=>?_,λq hq=>(G.aF q hq).mono kp,λa es e h=>?_,λj O es h=>?_⟩
  ·rcases aS h with⟨e,q⟩|⟨e,q⟩
   ·cases q
   ·obtain⟨u,a,b⟩:=G.a7 j d' q;exact⟨u,by rw[getElem?_set_ne (Ne.symm e)];exact a,b.mono kp⟩
  ·have eV:=ey h;rw[length_set]at eV;rcases aS h with⟨e,q⟩|⟨e,q⟩
   ·subst e;cases q;refine⟨xs,?_,?_,J6 r,?_⟩
    ·rw[if_pos rfl];exact getElem?_set_self (by rw[G.len];exact eV)
    ·rw[if_pos rfl];exact eA
    ·rw[if_pos rfl];cases e0:ah p with
     |none=>rfl
     |some o=>have:=G.same p o e0;rw[hp]at this;cases this
   ·obtain⟨ys,a,b,c,e'⟩:=G.own j es q;refine⟨ys,?_,?_,J6 c,?_⟩
    ·rw[if_neg e,getElem?_set_ne (Ne.symm e)];exact a
    ·rw[if_neg e];exact sm _ _ b
    ·rw[if_neg e];exact e'
  ·rcases aS h1 with⟨e1,q1⟩|⟨e1,q1⟩
   ·rcases aS h2 with⟨e2,q2⟩|⟨e2,q2⟩
    ·rw[e1,e2]
    ·rw[if_pos e1,if_neg e2]at e;exact absurd e.symm (Gp l fs q2 m2)
   ·rcases aS h2 with⟨e2,q2⟩|⟨e2,q2⟩
    ·rw[if_neg e1,if_pos e2]at e;exact absurd e (Gp j es q1 m1)
    ·rw[if_neg e1,if_neg e2]at e;exact G.inj j l es fs q1 q2 m1 m2 e
  ·rcases aS h with⟨z,_⟩|⟨_,q⟩
   ·exact absurd z.symm oH
   ·show(if 0=i then p else ad 0)=a;rw[if_neg (Ne.symm oH)];exact G.pin a es e q
  ·rcases aS h with⟨e,q⟩|⟨e,q⟩
   ·cases q
   ·obtain⟨ys,a,b,c,e'⟩:=G.obj j O es q;refine⟨ys,?_,?_,J6 c,?_⟩
    ·rw[if_neg e,getElem?_set_ne (Ne.symm e)];exact a
    ·rw[if_neg e];exact sm _ _ b
    ·rw[if_neg e];exact e'
variable {es:List Dat}
theorem GA.change(G:GA K ah Av pn aF H σ Γ ad){ys:List V}(hi:Γ[i]?=some (some (.own ds)))(r:az K H (aO Av Γ ad) ys es):
  GA K ah Av pn aF (upd H (ad i) (.lst ys)) σ (Γ.set i (some (.own es))) ad:=by
 have eV:i<Γ.length:=ey hi;have av:∀a,aO Av (Γ.set i (some (.own es))) ad a->aO Av Γ ad a:=by
  rintro a (z|⟨j,fs,e,m,q⟩)
  ·exact .inl z
  ·rcases aS e with⟨e1,_⟩|⟨e1,q1⟩
   ·subst e1;exact .inr ⟨j,_,hi,rfl,q⟩
   ·exact .inr ⟨j,fs,q1,m,q⟩
 have kp:lN H (aO Av Γ ad) (upd H (ad i) (.lst ys)) (aO Av (Γ.set i (some (.own es))) ad):=by
  intro b o h n;refine⟨?_,λz=>n (av b z)⟩;rw[bC λz=>n (.inr ⟨i,_,hi,rfl,z.symm⟩)];exact h
 obtain⟨NN,g1,g2,g3,g4⟩:=G.own i ds hi;refine⟨λb o h=>?_,G.j5,by rw[length_set];exact G.len,λj d' h=>?_,λj fs h=>?_,λj l fs gs h1 h2 m1 m2 e=>?_,λp hp=>(G.aF p hp).mono kp,λa fs e h=>?_,λj O fs h=>?_⟩
 ·rw[bC (bz h g4)];exact G.same b o h
 ·rcases aS h with⟨e,q⟩|⟨e,q⟩
  ·cases q
  ·obtain⟨u,a,b⟩:=G.a7 j d' q;exact⟨u,a,b.mono kp⟩
 ·rcases aS h with⟨e,q⟩|⟨e,q⟩
  ·subst e;cases q;exact⟨ys,g1,eA,r.mono kp,g4⟩
  ·obtain⟨zs,a,b,c,e'⟩:=G.own j fs q;refine⟨zs,a,?_,c.mono kp,e'⟩;rw[bC λz=>e (G.Pl j i fs ds q hi z)];exact b
 ·rcases aS h1 with⟨e1,q1⟩|⟨e1,q1⟩
  ·rcases aS h2 with⟨e2,q2⟩|⟨e2,q2⟩
   ·rw[e1,e2]
   ·subst e1;exact G.inj j l _ gs hi q2 rfl m2 e
  ·rcases aS h2 with⟨e2,q2⟩|⟨e2,q2⟩
   ·subst e2;exact G.inj j l fs _ q1 hi m1 rfl e
   ·exact G.inj j l fs gs q1 q2 m1 m2 e
 ·rcases aS h with⟨z,_⟩|⟨_,q⟩
  ·subst z;exact G.pin a ds e hi
  ·exact G.pin a fs e q
 ·rcases aS h with⟨e,q⟩|⟨e,q⟩
  ·cases q
  ·obtain⟨zs,a,b,c,e'⟩:=G.obj j O fs q;refine⟨zs,a,?_,c.mono kp,e'⟩;rw[bC λz=>e (G.inj j i _ _ q hi rfl rfl z)];exact b
theorem GA.hide(G:GA K ah Av pn aF H σ Γ ad)(r:aU K H (aO Av Γ ad) v d):GA K ah Av pn ((v,d)::aF) H σ Γ ad:=
 ⟨G.same,G.j5,G.len,G.a7,G.own,G.inj,λp hp=>by
  rcases mem_cons.mp hp with e|h
  ·subst e;exact r
  ·exact G.aF p h,G.pin,G.obj⟩
theorem GA.qj(G:GA K ah Av pn ((v,d)::aF) H σ Γ ad):GA K ah Av pn aF H σ Γ ad:=
 ⟨G.same,G.j5,G.len,G.a7,G.own,G.inj,λp hp=>G.aF p (mem_cons_of_mem _ hp),G.pin,G.obj⟩
inductive Fl where
 |nx (Γ:aw)|rt (d:Dat)|bk (Γ:aw)|ct (Γ:aw)|rm (d:Dat) (Γ:aw)
def JH (K:Fg) (ah:Hp) (Av:gg) (pn:Option Addr) (aF:Hid) (D:Ends):Fl->Prop
 | .nx Γ=>∀σ H,lO K ah Av pn aF H σ Γ->D.nx σ H
 | .rt d=>∀v H,bg ah H->aU K H Av v d->D.rt v H
 | .bk Γ=>∀σ H,lO K ah Av pn aF H σ Γ->D.bk σ H
 | .ct Γ=>∀σ H,lO K ah Av pn aF H σ Γ->D.ct σ H
 | .rm d Γ=>∀σ v H ad,GA K ah Av pn aF H σ Γ ad->aU K H (aO Av Γ ad) v d->D.rt v H
def yB (K:Fg) (g:aw->Option Fl):TS:=λD σ H=>∃ah Av pn aF Γ fl,lO K ah Av pn aF H σ Γ/\g Γ=some fl/\JH K ah Av pn aF D fl
abbrev Rl (X:Cx) (st:Stmt) (g:aw->Option Fl):Prop:=PS X st (yB X.K g)
abbrev Rk (X:Cx) (st:List Stmt) (g:aw->Option Fl):Prop:=lH X st (yB X.K g)
variable {st:Stmt}
theorem bY{t t':TS}(h:PS X st t)(m:∀D σ H,t' D σ H->t D σ H):PS X st t':=λpins s σ H D I q=>h pins s σ H D I (m D σ H q)
variable {rest:List Stmt} in
theorem yY{t t':TS}(h:lH X rest t)(m:∀D σ H,t' D σ H->t D σ H):lH X rest t':=λpins s σ H D I q=>h pins s σ H D I (m D σ H q)
def kg:aw->Option Fl:=λΓ=>some (.nx Γ)
variable {g2 g1:aw->Option Fl}
def du (g1 g2:aw->Option Fl):aw->Option Fl:=λΓ=>(g1 Γ).bind λfl=>match fl with
 | .nx af=>g2 af
 | .rt d=>some (.rt d)
 | .bk af=>some (.bk af)
 | .ct af=>some (.ct af)
 | .rm d af=>some (.rm d af)
def nW (f:ar->Option Dat):aw->Option Fl:=λΓ=>(f (c7 Γ)).map .rt
def mG (ft:ar->Option Bool) (g1 g2:aw->Option Fl):aw->Option Fl:=λΓ=>(ft (c7 Γ)).bind λc=>if c=true then g1 Γ else g2 Γ
def FC:Dat->Bool
 | .none=>true| .bool _=>true| .int _=>true| .str _=>true
 |_=>false
theorem aU.sc(h:aU K H Av v d)(s:FC d=true):aU K H iO v d:=by
 cases h with
 |bO=>exact .bO
 |bl b=>exact .bl b
 |int i=>exact .int i
 |str x=>exact .str x
 |tup _ _=>cases s
 |lst _ _=>cases s
def iA (i:Nat) (f:ar->Option Dat):aw->Option Fl:=λΓ=>match f (bj Γ)with
 |some d=>some (.nx (Γ.set i (some (.a7 d))))
 |none=>(f (c7 Γ)).bind λd=>if FC d=true then some (.nx (Γ.set i (some (.a7 d))))else none
theorem NY:∀D σ H,yB K (iA i f) D σ H->Iy (tF K f) (El i) D σ H:=by
 rintro D σ H ⟨ah,Av,pn,aF,Γ,fl,⟨ad,G⟩,hf,q⟩;unfold iA at hf;split at hf
 ·rename_i d e1;cases hf;exact⟨aO Av Γ ad,bj Γ,d,G.gf,G.j3,e1,λv H' s r=>q _ _ ⟨ad,(G.grow s).set i r⟩⟩
 ·obtain⟨d,e1,hf⟩:=bind_some hf;split at hf
  ·rename_i hs;cases hf;exact⟨Av,c7 Γ,d,G.j5.same G.same,G.rh,e1,λv H' s r=>q _ _ ⟨ad,(G.grow s).set i (r.sc hs)⟩⟩
  ·cases hf
abbrev cN:=List (Nat×Dat)
inductive kE (K:Fg) (H:Hp) (Av:gg):List (Nat×V)->cN->Prop
 |nil:kE K H Av [] []
 |cons {i:Nat} {v:V} {d:Dat} {vs:List (Nat×V)} {ds:cN}:aU K H Av v d->kE K H Av vs ds->kE K H Av ((i,v)::vs) ((i,d)::ds)
def oW (σ:L2.St) (ws:List (Nat×V)):L2.St:=ws.foldl (λσ p=>σ.set p.1 (some p.2)) σ
def setG (Γ:aw) (ws:cN):aw:=ws.foldl (λΓ p=>Γ.set p.1 (some (.a7 p.2))) Γ
def jE (ρ:ar) (ws:cN):ar:=ws.foldl (λρ p=>ρ.set p.1 (some p.2)) ρ
theorem kE.append{K:Fg}{H:Hp}{Av:gg}:∀{a b:List (Nat×V)} {c d:cN},kE K H Av a c->kE K H Av b d->kE K H Av (a++b) (c++d)
 |_,_,_,_,.nil,s=>s
 |_,_,_,_,.cons h r,s=>.cons h (kE.append r s)
def iQ (K:Fg) (gt:Dat->Option cN):TG:=λv σ H Q=>∃Av d as,aU K H Av v d/\gt d=some as/\∀ws,kE K H Av ws as->Q (oW σ ws) H
def DA (K:Fg) (gt:List Dat->Option cN):sV:=λvs σ H Q=>∃Av ds as,az K H Av vs ds/\gt ds=some as/\∀ws,kE K H Av ws as->Q (oW σ ws) H
theorem Ca{t t':TG}{tg:Expr}(h:PG X tg t)(m:∀v σ H Q,t' v σ H Q->t v σ H Q):PG X tg t':=λpins s σ H v u Q I r q=>h pins s σ H v u Q I r (m v σ H Q q)
theorem zb{t t':sV}{tg:List Expr}(h:AX X tg t)(m:∀v σ H Q,t' v σ H Q->t v σ H Q):AX X tg t':=λpins s σ H v u Q I r q=>h pins s σ H v u Q I r (m v σ H Q q)
def aName (i:Nat):Dat->Option cN:=λd=>some [(i,d)]
def lM:List Dat->Option cN:=λds=>match ds with|[]=>some []|_=>none
variable {g:aw->Option Fl}
def fF (g:Dat->Option cN) (gs:List Dat->Option cN):List Dat->Option cN:=λds=>match ds with
 |[]=>none
 |d::r=>(g d).bind λa=>(gs r).map (a++·)
def jQ (n:Nat) (gs:List Dat->Option cN):Dat->Option cN:=λd=>match d with
 | .tuple ds=>if ds.length=n then gs ds else none
 |_=>none
variable {ws:List (Nat×V)} {as:cN}
theorem GA.ib{Kc:aw}{σ:L2.St}(h:kE K H (aO Av Kc ad) ws as)(hw:∀a,aO Av Γ ad a->aO Av Kc ad a)(G:GA K ah Av pn aF H σ Γ ad):
  GA K ah Av pn aF H (oW σ ws) (setG Γ as) ad:=by
 induction h generalizing σ Γ with
 |nil=>exact G
 | @cons i v d vs ds h r ih=>exact ih (σ:=σ.set i (some v)) (Γ:=Γ.set i (some (.a7 d))) (λa z=>hw a (aO.fO a z)) (G.set i (h.weak hw))
def qt (gt:Dat->Option cN) (f:ar->Option Dat):aw->Option Fl:=λΓ=>(f (bj Γ)).bind λd=>(gt d).map λas=>.nx (setG Γ as)
open PySem PySem.Spec PyProof.Rows L2
open PySem.W (Dat)
def Po (K:Fg) (tl:TE):TI:=λσ H R=>tl σ H λx H1=>∃a,x=.ref a/\(((∃xs,fK K H1 a xs)/\R (Rr K a) H1)\/((∃xs,iN K H1 a xs)/\R (Rq K a) H1))
variable {tg:Expr}
theorem qF{l:Expr}{tl:TE}(hl:PE X l tl):PI X tg l (Po X.K tl):=by
 intro pins s σ H R I h;refine cq (hl pins s σ H _ I h) λv s1 ⟨x,H1,I1,r1,q1⟩=>?_;obtain⟨a,e,q⟩:=q1;subst e;cases r1;rcases q with⟨⟨xs,hq⟩,q⟩|⟨⟨xs,hq⟩,q⟩
 ·obtain⟨ak,rv,p,hz⟩:=I1.list hq;refine wpAny_pyIter_list p.isList ?_;refine⟨s1.heap.objs.size,[s1.heap.objs.size],_,_,H1,rfl,I1.kept (t':=s1.toks) λb o e=>get?_push_of_some _ e,EY a _,⟨_,get?_push_size _ rfl,rfl,rfl⟩,λb hb=>?_,q⟩;have e:b=s1.heap.objs.size:=by simpa using hb
  subst e;exact I1.we (le_refl _) (I1.bx.fresh (le_refl _))
 ·obtain⟨ak,rv,p,hz⟩:=I1.tuple hq;refine wpAny_pyIter_tuple (show s1.heap.IsTuple a ak.toArray from p) ?_;refine⟨s1.heap.objs.size,[s1.heap.objs.size],_,_,H1,rfl,I1.kept (t':=s1.toks) λb o e=>get?_push_of_some _ e,Dw a _,⟨_,get?_push_size _ rfl,rfl,rfl⟩,λb hb=>?_,q⟩;have e:b=s1.heap.objs.size:=by simpa using hb
  subst e;exact I1.we (le_refl _) (I1.bx.fresh (le_refl _))
def cI:Dat->Option (List Dat)
 | .list ds=>some ds
 | .tuple ds=>some ds
 |_=>none
def Over (K:Fg) (J:It) (x:V) (d:Dat) (ds:List Dat):Prop:=∀(i:Nat) (H:Hp) (Av:gg),aU K H Av x d->(ds.length<=i->J.stop i H)/\(∀di,ds[i]?=some di->J.go i H/\∀y H',J.wV i H y H'->H'=H/\aU K H Av y di)
theorem nB{a:Addr}:Over K (Rr K a) (.ref a) (.list ds) ds:=by
 intro i H Av r;obtain⟨b,xs,e,hq,rs⟩:=r.g9;cases e;refine⟨λh=>⟨xs,hq.sq,by rw[rs.length];exact h⟩,λdi hd=>?_⟩;obtain⟨v,hv,rv⟩:=rs.get hd;refine⟨⟨xs,v,hq.sq,hv⟩,λy H' hy=>?_⟩;obtain⟨e,hy⟩:=hy;have:=hy xs hq.sq;rw[hv]at this;cases this;exact⟨e,rv⟩
theorem p4{a:Addr}:Over K (Rq K a) (.ref a) (.tuple ds) ds:=by
 intro i H Av r;obtain⟨b,xs,e,hq,rs⟩:=r.fj;cases e;refine⟨λh=>⟨xs,hq.sq,by rw[rs.length];exact h⟩,λdi hd=>?_⟩;obtain⟨v,hv,rv⟩:=rs.get hd;refine⟨⟨xs,v,hq.sq,hv⟩,λy H' hy=>?_⟩;obtain⟨e,hy⟩:=hy;have:=hy xs hq.sq;rw[hv]at this;cases this;exact⟨e,rv⟩
theorem drop_cons{l:List α}{a:α}(h:l[i]?=some a):l.drop i=a::l.drop (i+1):=by
 obtain⟨hl,e⟩:=List.getElem?_eq_some_iff.mp h;rw[List.drop_eq_getElem_cons hl,e]
def forL (gt:Dat->Option cN) (gb:aw->Option Fl):List Dat->aw->Option Fl
 |[],Γ=>some (.nx Γ)
 |d::r,Γ=>(gt d).bind λas=>(gb (setG Γ as)).bind λfl=>match fl with
  | .nx af=>forL gt gb r af
  | .ct af=>forL gt gb r af
  | .bk af=>some (.nx af)
  | .rt v=>some (.rt v)
  | .rm v af=>some (.rm v af)
def nX (gt:Dat->Option cN) (gb:aw->Option Fl) (f:ar->Option Dat):aw->Option Fl:=λΓ=>(f (bj Γ)).bind λd=>(cI d).bind λds=>forL gt gb ds Γ
variable {gt:Dat->Option cN} {gb:aw->Option Fl} {J:It}
theorem qY{D:Ends}{x:V}{σ:L2.St}{H1:Hp}{fl:Fl}(ov:Over K J x d ds)(G:lO K ah Av pn ((x,d)::aF) H1 σ Γ)(hf:forL gt gb ds Γ=some fl)(q:JH K ah Av pn aF D fl):
  ∃W:Nat->Nat->L2.St->Hp->Prop,(∃m,W 0 m σ H1)/\∀i m σ H,W i m σ H->
   (J.stop i H/\D.nx σ H)\/(J.go i H/\∃N:L2.St->Hp->Prop,(∀bH H',N bH H'->∃m',m'<m/\W (i+1) m' bH H')/\∀x H',J.wV i H x H'->iQ K gt x σ H' λgj H2=>yB K gb {D with nx:=N,ct:=N,bk:=D.nx} gj H2):=by
 refine⟨λi m σ H=>m=ds.length-i/\i<=ds.length/\∃Γ,lO K ah Av pn ((x,d)::aF) H σ Γ/\forL gt gb (ds.drop i) Γ=some fl,⟨_,rfl,zero_le _,Γ,G,by rw[drop_zero];exact hf⟩,?_⟩;rintro i m σ H ⟨rfl,hi,Γ,⟨ad,G⟩,hf⟩;have rx:=G.aF (x,d) mem_cons_self;cases gA:ds[i]? with
 |none=>
  have hl:ds.length<=i:=List.getElem?_eq_none_iff.mp gA;rw[drop_eq_nil_of_le hl]at hf;cases hf;exact .inl ⟨(ov i H _ rx).1 hl,q σ H ⟨ad,G.qj⟩⟩
 |some di=>
  have eV:=ey gA;rw[drop_cons gA]at hf;obtain⟨as,e1,hf⟩:=bind_some (show(gt di).bind _=some fl from hf);obtain⟨r9,e2,hf⟩:=bind_some hf;obtain⟨go,yl⟩:=(ov i H _ rx).2 di gA;refine .inr ⟨go,λbH H'=>∃af,lO K ah Av pn ((x,d)::aF) H' bH af/\forL gt gb (ds.drop (i+1)) af=some fl,λbH H' ⟨af,G',h'⟩=>⟨ds.length-(i+1),by omega,rfl,by omega,af,G',h'⟩,λy H' hy=>?_⟩;obtain⟨eH,ry⟩:=yl y H' hy;subst eH;refine⟨aO Av Γ ad,di,as,ry,e1,λws hw=>⟨ah,Av,pn,(x,d)::aF,setG Γ as,r9,⟨ad,GA.ib hw (λ_ z=>z) G⟩,e2,?_⟩⟩;cases r9 with
  |nx af=>exact λgj H2 G2=>⟨af,G2,hf⟩
  |ct af=>exact λgj H2 G2=>⟨af,G2,hf⟩
  |bk af=>cases hf;exact λgj H2 ⟨qc,G2⟩=>q gj H2 ⟨qc,G2.qj⟩
  |rt v=>cases hf;exact q
  |rm v af=>cases hf;exact λgj v2 H2 qc G2 r2=>q gj v2 H2 qc G2.qj r2
def gH (lo:Int) (n:Nat):List Dat:=(List.range n).map fun(i:Nat)=>Dat.int (lo+(i:Int))
theorem tp{lo:Int}{di:Dat}(h:(gH lo n)[i]?=some di):i<n/\di=.int (lo+(i:Int)):=by
 unfold gH at h;rw[getElem?_map]at h;cases e:(List.range n)[i]? with
 |none=>rw[e]at h;cases h
 |some k=>
  rw[e]at h;cases h;obtain⟨hl,e2⟩:=List.getElem?_eq_some_iff.mp e;rw[length_range]at hl;rw[List.getElem_range]at e2;subst e2;exact⟨hl,rfl⟩
theorem p6{lo:Int}:Over K (LU lo n) .bO .none (gH lo n):=by
 intro i H Av _;refine⟨λh=>?_,λdi hd=>?_⟩
 ·have:(gH lo n).length=n:=by unfold gH;rw[length_map,length_range]
  show n<=i;omega
 ·obtain⟨hl,e⟩:=tp hd;refine⟨hl,λy H' hy=>?_⟩;obtain⟨e1,e2⟩:=hy;subst e2;rw[e];exact⟨e1,.int _⟩
def jI:List Dat->Option (List Dat)
 |[.int j]=>if -(2^62)<=j/\j<2^62 then some (gH 0 j.toNat)else none
 |_=>none
variable {fs:ar->Option (List Dat)} in
def DG (rg:List Dat->Option (List Dat)) (gt:Dat->Option cN) (gb:aw->Option Fl) (fs:ar->Option (List Dat)):aw->Option Fl:=λΓ=>(fs (c7 Γ)).bind λas=>(rg as).bind λds=>forL gt gb ds Γ
theorem az.eJ(h:az K H Av vs [d]):∃v,vs=[v]/\aU K H Av v d:=by
 cases h with|cons a r=>cases r;exact⟨_,rfl,a⟩
variable {e:Dat}
theorem az.fN(h:az K H Av vs [d,e]):∃v u,vs=[v,u]/\aU K H Av v d/\aU K H Av u e:=by
 cases h with|cons a r=>obtain⟨u,rfl,b⟩:=r.eJ;exact⟨_,u,rfl,a,b⟩
def fR (ft:ar->Option Bool) (gb:aw->Option Fl):Nat->aw->Option Fl
 |0,_=>none
 |n+1,Γ=>(ft (c7 Γ)).bind λc=>if c=true then(gb Γ).bind λfl=>match fl with
   | .nx af=>fR ft gb n af
   | .ct af=>fR ft gb n af
   | .bk af=>some (.nx af)
   | .rt v=>some (.rt v)
   | .rm v af=>some (.rm v af)
  else some (.nx Γ)
def mF (fuel:aw->Nat) (ft:ar->Option Bool) (gb:aw->Option Fl):aw->Option Fl:=λΓ=>fR ft gb (fuel Γ) Γ
def kc (K:Fg) (f:ar->Option (List Dat)):TE:=λσ H Q=>∃Av ρ ds,gG H Av/\fg K H Av σ ρ/\f ρ=some ds/\∀H1 p xs,bg H H1->H1 p=none->az K H1 Av xs ds->Q (.ref p) (upd H1 p (.lst xs))
def gd {α:Type} (c:Prop) [Decidable c] (o:Option α):Option α:=if c then o else none
theorem CJ{c:Prop}[Decidable c]{o:Option α}{a:α}(h:gd c o=some a):c/\o=some a:=by
 unfold gd at h;split at h
 ·rename_i hc;exact⟨hc,h⟩
 ·cases h
variable {fs:ar->Option (List Dat)} in
def nJ (fs:ar->Option (List Dat)):ar->Option (List Dat):=λρ=>(fs ρ).bind λds=>gd (ds.length<=sizeLine) (some ds)
def vM (i:Nat) (f:ar->Option (List Dat)):aw->Option Fl:=λΓ=>(f (bj Γ)).map λds=>.nx (Γ.set i (some (.own ds)))
def tm (i:Nat) (f:ar->Option Dat):aw->Option Fl:=λΓ=>match Γ[i]? with
 |some (some (.own ds))=>(f (bj Γ)).bind λd=>gd (ds.length<sizeLine) (some (.nx (Γ.set i (some (.own (ds++[d]))))))
 |_=>none
def cY (N:List Str) (ds:List Dat):aw:=ds.map (λd=>some (.a7 d))++List.replicate (N.length-ds.length) none
def jG (N:List Str) (g:aw->Option Fl):List Dat->Option Dat:=λds=>match g (cY N ds)with
 |some (.rt d)=>some d
 |some (.nx _)=>some .none
 |_=>none
variable {N:List Str}
theorem tO(hA:gG H Av)(r:az K H Av vs ds)(hl:ds.length<=N.length):lO K H Av none [] H (start N vs) (cY N ds):=by
 have p8:∀(i:Nat) (s:Slot),(cY N ds)[i]?=some (some s)->s.mt=false:=λi s h=>by
  unfold cY at h;by_cases hi:i<ds.length
  ·rw[getElem?_append_left (by rw[length_map];exact hi),getElem?_map,getElem?_eq_getElem hi]at h;cases h;rfl
  ·rw[getElem?_append_right (by rw[length_map];omega),getElem?_replicate]at h;split at h<;>cases h
 refine⟨λ_=>0,bg.refl H,hA,?_,λi d h=>?_,λi es h=>absurd (p8 i _ h) (by simp[Slot.mt]),λi j s _ h _ m=>absurd (p8 i s h) (by rw[m];decide),λp hp=>absurd hp (by simp),λa es e=>(by cases e),λi O es h=>absurd (p8 i _ h) (by simp[Slot.mt])⟩
 ·unfold L2.start cY;rw[length_append,length_append,length_map,length_map,length_replicate,length_replicate,r.length]
 ·unfold cY at h;by_cases hi:i<ds.length
  ·rw[getElem?_append_left (by rw[length_map];exact hi),getElem?_map,getElem?_eq_getElem hi]at h;cases h;obtain⟨v,hv,rv⟩:=r.get (getElem?_eq_getElem hi);refine⟨v,?_,rv.weak ?_⟩
   ·unfold L2.start;rw[getElem?_append_left (by rw[length_map,r.length];exact hi),getElem?_map,hv];rfl
   ·rintro a (z|⟨j,s,e,m,_⟩)
    ·exact z
    ·exact absurd (p8 j s e) (by rw[m];decide)
  ·rw[getElem?_append_right (by rw[length_map];omega),getElem?_replicate]at h;split at h<;>cases h
variable {qual:Str} {fa:Addr} {fd:FuncData}
theorem SI{k:Nat}(U:nM K x qual st fa fd)(hm:mg x=some (.ref fa))(hB:Binds K fd ps [])(S:gi N ps (bf st))(hn:ps.length=n)(hbody:∀(bF:Value) (A:Around) (outer:List Env) (s:Shared) (H:Hp) (E:XK),cF k (A.deeper (envOfC qual (bf st) s.heap.objs.size fa bF))->Rk (jM jj P w K mg base N qual (bf st) fa bF A outer s H E).oB (dj st) g)(hF:∀ds d,ds.length=n->F ds=some d->jG N g ds=some d):Dn P w K mg base (k+1) x ps n F:=by
 have dO:ps.length<=N.length:=by have:=congrArg List.length S.pre;rw[length_take]at this;omega
 refine⟨fa,fd,U.ok S (λvs H Q E h=>?_) (λbF A outer s H vs Q E hr h=>?_),hm,U.kp,hB⟩
 ·obtain⟨Av,ds,d,_,r,hl,_⟩:=h;rw[r.length,hl,hn]
 ·obtain⟨Av,ds,d,hA,r,hl,hd,q⟩:=h;have dR:=hF ds d hl hd;unfold jG at dR;refine⟨_,hbody bF A outer s H E hr,?_⟩;cases hg:g (cY N ds)with
  |none=>rw[hg]at dR;cases dR
  |some fl=>
   refine⟨H,Av,none,[],cY N ds,fl,tO hA r (by omega),hg,?_⟩;rw[hg]at dR;cases fl with
   |nx Γ=>cases dR;exact λbH H' ⟨ad,G⟩=>q _ H' G.same .bO
   |rt d'=>cases dR;exact λv H' s r=>q v H' s r
   |bk Γ=>cases dR
   |ct Γ=>cases dR
   |rm d' Γ=>cases dR
open PySem PySem.Spec PyProof.Rows L2
open PySem.W (Dat kqdOk kqdP kqdPs kqd_lay kqd_eqv)
def lL (d e:Dat):Bool:=@decide (d=e) (Classical.propDecidable _)
theorem AA:lL d e=true↔d=e:=@decide_eq_true_iff _ (Classical.propDecidable _)
theorem lB(h:d=e):lL d e=true:=AA.mpr h
theorem lC(h:d≠e):lL d e=false:=eq_false_iff.mpr λz=>h (AA.mp z)
def iD (C:Int->Int->Prop) (g:Int->Int->Dat):Dat->Dat->Option Dat:=open Classical in λx y=>match x,y with
 | .int i,.int j=>if C i j then some (g i j)else none
 |_,_=>none
variable {C:Int->Int->Prop}
theorem je{g:Int->Int->Dat}{i j:Int}(h:C i j):iD C g (.int i) (.int j)=some (g i j):=by
 unfold iD;exact if_pos h
theorem GI{g:Int->Int->Dat}{x y:Dat}(h:iD C g x y=some d):∃i j,x=.int i/\y=.int j/\C i j/\d=g i j:=by
 unfold iD at h;split at h
 ·split at h
  ·rename_i i j hc;cases h;exact⟨i,j,rfl,rfl,hc,rfl⟩
  ·cases h
 ·cases h
theorem p7{g:Int->Int->Int}:lU K (rI C λi j=>.int (g i j)) (iD C λi j=>.int (g i j)):=by
 intro H Av x y dx dy d Q hA rx ry h q;obtain⟨i,j,rfl,rfl,hc,rfl⟩:=GI h;exact⟨i,j,rx.cQ,ry.cQ,hc,q _ H (bg.refl H) (.int _)⟩
theorem rZ{g:Int->Int->Bool}:lU K (xh λi j=>.bl (g i j)) (iD (λ_ _=>True) λi j=>.bool (g i j)):=by
 intro H Av x y dx dy d Q hA rx ry h q;obtain⟨i,j,rfl,rfl,hc,rfl⟩:=GI h;exact⟨i,j,rx.cQ,ry.cQ,q _ H (bg.refl H) (.bl _)⟩
def kC:Dat->Dat->Option Dat
 | .int i,.int j=>some (.int (i+j))
 | .str x,.str y=>if x.length+y.length<=sizeLine then some (.str (x++y))else none
 |_,_=>none
def RC (_ _:Int):Prop:=True
def LX (_ j:Int):Prop:=j≠0
theorem Cc:dS X (binaryOp .Sub) (rI RC λi j=>.int (i-j)):=KP λ_ _ _ _ _ _ _ _ q=>sub_int q
theorem Cd:dS X (binaryOp .Mult) (rI IntMulOk λi j=>.int (i*j)):=KP λ_ _ _ _ _ _ _ hc q=>mul_int q hc
theorem J3:dS X (binaryOp .Mod) (rI LX λi j=>.int (i.fmod j)):=KP λ_ _ _ _ _ _ _ hc q=>mod_int' hc q
abbrev DC:Dat->Dat->Option Dat:=iD RC λi j=>.int (i-j)
abbrev jK:Dat->Dat->Option Dat:=iD IntMulOk λi j=>.int (i*j)
abbrev vW:Dat->Dat->Option Dat:=iD LX λi j=>.int (i.fmod j)
abbrev DX:Dat->Dat->Option Dat:=iD B5 λi j=>.int (i^j.toNat)
abbrev Gx:Dat->Dat->Option Dat:=iD (λ_ _=>True) λi j=>.bool (decide (i<j))
abbrev Tj:Dat->Dat->Option Dat:=iD (λ_ _=>True) λi j=>.bool (decide (i<=j))
abbrev Hb:Dat->Dat->Option Dat:=iD (λ_ _=>True) λi j=>.bool (decide (j<i))
abbrev Uh:Dat->Dat->Option Dat:=iD (λ_ _=>True) λi j=>.bool (decide (j<=i))
def o6:Dat->Option Dat
 | .int i=>some (.int (-i))
 |_=>none
mutual
theorem aU.reads{pins:List (Addr×Obj)}{σ:L2.St}{H:Hp}{s:Shared}{Av:gg}(I:Inv X pins σ H s):∀{v:V} {d:Dat} (n:Nat),aU X.K H Av v d->kqdOk n d=true->∀u,RelV v u->∃as,Reads s.heap u (kqdP d) as
 |_,_,n,.bO,_,u,r=>by cases(show u=Value.none from r);rw[kqdP];exact⟨_,.none⟩
 |_,_,n,.bl b,_,u,r=>by cases(show u=Value.bool b from r);rw[kqdP];exact⟨_,.bool b⟩
 |_,_,n,.int i,_,u,r=>by obtain⟨t,q⟩:=(show ∃t,u=Value.int i t from r);subst q;rw[kqdP];exact⟨_,.int i t⟩
 |_,_,n,.str x,_,u,r=>by obtain⟨t,q⟩:=(show ∃t,u=Value.str x t from r);subst q;rw[kqdP];exact⟨_,.str x t⟩
 |_,_,0,.tup _ _,hk,_,_=>by simp[kqdOk]at hk
 |_,_,0,.lst _ _,hk,_,_=>by simp[kqdOk]at hk
 |_,_,n+1,.tup (a:=a) hq rs,hk,u,r=>by
  cases(show u=Value.ref a from r);obtain⟨ak,rv,⟨o,h1,h2,m,h3⟩,_⟩:=I.tuple hq.sq;obtain⟨as,q⟩:=az.reads I n rs (by simpa [kqdOk]using hk) ak rv;rw[kqdP];exact⟨as,.tuple h1 h2 h3 (by simpa using q)⟩
 |_,_,n+1,.lst (a:=a) hq rs,hk,u,r=>by
  cases(show u=Value.ref a from r);obtain⟨ak,rv,⟨o,m,h1,h2,_,h3⟩,_⟩:=I.list hq.sq;obtain⟨as,q⟩:=az.reads I n rs (by simpa [kqdOk]using hk) ak rv;rw[kqdP];exact⟨_,.list h1 h2 h3 (by simpa using q)⟩
theorem az.reads {pins:List (Addr×Obj)} {σ:L2.St} {H:Hp} {s:Shared} {Av:gg} (I:Inv X pins σ H s):∀{vs:List V} {ds:List Dat} (n:Nat),az X.K H Av vs ds->(∀d∈ds,kqdOk n d=true)->∀us,Vals vs us->∃as,ReadsAll s.heap us (kqdPs ds) as
 |_,_,n,.nil,_,us,r=>by cases r;rw[kqdPs];exact⟨_,.nil⟩
 |_,_,n,.cons h t,hk,us,r=>by
  cases r with
  |cons r1 r2=>
   obtain⟨as,q⟩:=aU.reads I n h (hk _ (.head _)) _ r1;obtain⟨bs,p⟩:=az.reads I n t (λd hm=>hk d (.tail _ hm)) _ r2;rw[kqdPs];exact⟨_,.cons q p⟩
end
theorem wj(d e:Dat)(h1:kqdOk 9 d=true)(h2:kqdOk 9 e=true):PyData.eqv (kqdP d) (kqdP e)=(lL d e):=by
 have q:=kqd_eqv 9 d e 9 h1 h2;by_cases hq:d=e
 ·rw[lB hq];exact q.mpr hq
 ·rw[lC hq];exact eq_false_iff.mpr λx=>hq (q.mp x)
theorem nr(d:Dat)(h:kqdOk 9 d=true):SeqAt.shaped (kqdP d)=true:=by
 have l:=kqd_lay 9 d h;unfold SeqAt.shaped;rw[l.1,Bool.true_and];exact decide_eq_true (le_trans l.2 (by decide))
variable {e:Expr}
def Ow (K:Fg):R2:=λx y H Q=>∃Av d e,aU K H Av x d/\aU K H Av y e/\kqdOk 9 d=true/\kqdOk 9 e=true/\Q (.bl (lL d e)) H
def Ot (K:Fg):R2:=λx y H Q=>∃Av d e,aU K H Av x d/\aU K H Av y e/\kqdOk 9 d=true/\kqdOk 9 e=true/\Q (.bl (!(lL d e))) H
theorem zu(hu:X.A.units+64<cLine):dS X (compareOp .Eq) (Ow X.K):=by
 intro pins s σ H x y v u Q I rx ry h;obtain⟨Av,d,e,r1,r2,k1,k2,q⟩:=h;obtain⟨as,ra⟩:=r1.reads I 9 k1 v rx;obtain⟨bs,rb⟩:=r2.reads I 9 k2 u ry;exact eq_dataH ra rb (nr d k1) (nr e k2) hu ⟨.bl _,H,I,by rw[wj d e k1 k2];rfl,q⟩
theorem Gg(hu:X.A.units+64<cLine):dS X (compareOp .NotEq) (Ot X.K):=by
 intro pins s σ H x y v u Q I rx ry h;obtain⟨Av,d,e,r1,r2,k1,k2,q⟩:=h;obtain⟨as,ra⟩:=r1.reads I 9 k1 v rx;obtain⟨bs,rb⟩:=r2.reads I 9 k2 u ry;exact ne_dataH ra rb (nr d k1) (nr e k2) hu ⟨.bl _,H,I,by rw[wj d e k1 k2];rfl,q⟩
def eqB:Dat->Dat->Option Bool:=open Classical in λx y=>match x,y with
 | .bool a,.bool b=>some (a==b)
 | .str a,.str b=>some (decide (a=b))
 |d,e=>if kqdOk 9 d=true/\kqdOk 9 e=true then some (lL d e)else none
def cM:Dat->Dat->Option Dat:=λx y=>(eqB x y).map .bool
def gK:Dat->Dat->Option Dat:=λx y=>(eqB x y).map λk=>.bool (!k)
theorem xM{x y:Dat}{k:Bool}(h:eqB x y=some k):(∃a b,x=.bool a/\y=.bool b/\k=(a==b))\/(∃a b,x=.str a/\y=.str b/\k=decide (a=b))\/(kqdOk 9 x=true/\kqdOk 9 y=true/\k=(lL x y)):=by
 unfold eqB at h;split at h
 ·cases h;exact .inl ⟨_,_,rfl,rfl,rfl⟩
 ·cases h;exact .inr (.inl ⟨_,_,rfl,rfl,by congr⟩)
 ·split at h
  ·rename_i hk;cases h;exact .inr (.inr ⟨hk.1,hk.2,rfl⟩)
  ·cases h
theorem zv:lU K (λx y H Q=>T8 x y H Q\/Ow K x y H Q) cM:=by
 intro H Av x y dx dy d Q hA rx ry h q;obtain⟨k,e1,rfl⟩:=ba h;rcases xM e1 with⟨a,b,rfl,rfl,rfl⟩|⟨a,b,rfl,rfl,rfl⟩|⟨k1,k2,rfl⟩
 ·rw[rx.l9,ry.l9];exact .inl ⟨rfl,by rw[vg];exact q _ H (bg.refl H) (.bl _)⟩
 ·rw[rx.iF,ry.iF];exact .inl ⟨rfl,by
   have:decide (V.str a=V.str b)=decide (a=b):=by simp
   rw[this];exact q _ H (bg.refl H) (.bl _)⟩
 ·exact .inr ⟨Av,dx,dy,rx,ry,k1,k2,q _ H (bg.refl H) (.bl _)⟩
theorem Gk:lU K (λx y H Q=>T6 x y H Q\/Ot K x y H Q) gK:=by
 intro H Av x y dx dy d Q hA rx ry h q;obtain⟨k,e1,rfl⟩:=ba h;rcases xM e1 with⟨a,b,rfl,rfl,rfl⟩|⟨a,b,rfl,rfl,rfl⟩|⟨k1,k2,rfl⟩
 ·rw[rx.l9,ry.l9];exact .inl ⟨rfl,by rw[vg];exact q _ H (bg.refl H) (.bl _)⟩
 ·rw[rx.iF,ry.iF];exact .inl ⟨rfl,by
   have:decide (V.str a=V.str b)=decide (a=b):=by simp
   rw[this];exact q _ H (bg.refl H) (.bl _)⟩
 ·exact .inr ⟨Av,dx,dy,rx,ry,k1,k2,q _ H (bg.refl H) (.bl _)⟩
def Ex:List Dat->Option Dat
 |[.int i]=>some (.int (if i<0 then -i else i))
 |_=>none
theorem HS:nO K (λxs H Q=>∃i,xs=[.int i]/\Q (.int (if i<0 then -i else i)) H) Ex:=by
 intro H Av xs ds d Q hA r h q;unfold Ex at h;split at h
 ·cases h;obtain⟨v,rfl,rv⟩:=r.eJ;rw[rv.cQ];exact⟨_,rfl,q _ H (bg.refl H) (.int _)⟩
 ·cases h
def kU:List Dat->Option Dat
 |[.str z]=>if z.length<=sizeLine then some (.int z.length)else none
 |[.list ds]=>some (.int ds.length)
 |[.tuple ds]=>some (.int ds.length)
 |_=>none
theorem HR:nO K (λxs H Q=>∃x n,xs=[x]/\Ro K x H n/\Q (.int n) H) kU:=by
 intro H Av xs ds d Q hA r h q;unfold kU at h;split at h
 ·split at h
  ·rename_i hz;cases h;obtain⟨v,rfl,rv⟩:=r.eJ;rw[rv.iF];exact⟨_,_,rfl,⟨hz,rfl⟩,q _ H (bg.refl H) (.int _)⟩
  ·cases h
 ·cases h;obtain⟨v,rfl,rv⟩:=r.eJ;obtain⟨a,ys,rfl,hq,rs⟩:=rv.g9;exact⟨_,_,rfl,.inl ⟨ys,hq.sq,rfl⟩,by rw[rs.length];exact q _ H (bg.refl H) (.int _)⟩
 ·cases h;obtain⟨v,rfl,rv⟩:=r.eJ;obtain⟨a,ys,rfl,hq,rs⟩:=rv.fj;exact⟨_,_,rfl,.inr ⟨ys,hq.sq,rfl⟩,by rw[rs.length];exact q _ H (bg.refl H) (.int _)⟩
 ·cases h
def NU:Dat->Option String
 | .none=>some "NoneType"| .bool _=>some "bool"| .int _=>some "int"| .str _=>some "str"| .tuple _=>some "tuple"| .list _=>some "list"
 | .bytes _=>none
theorem mr(K:Fg)(t T:String)(ht:t∈["NoneType","bool","int","str","tuple","list"])(hT:T∈["bool","int","str","tuple","list"]):PySem.W.kitOne K (.type t) (.type T)=some (decide (t=T) || (decide (t="bool")&&decide (T="int"))):=by
 simp only[mem_cons,not_mem_nil,or_false]at ht hT;rcases ht with rfl|rfl|rfl|rfl|rfl|rfl<;>rcases hT with rfl|rfl|rfl|rfl|rfl<;>rfl
def oE (T:String):Dat->Option Dat:=λd=>(NU d).bind λt=>if T∈["bool","int","str","tuple","list"]then some (.bool (decide (t=T) || (decide (t="bool")&&decide (T="int"))))else none
theorem Bc(T:String):kH X (.builtin "isinstance") (λxs H Q=>∃Av x d dd,xs=[x,.ty T]/\aU X.K H Av x d/\oE T d=some (.bool dd)/\Q (.bl dd) H):=by
 intro pins s σ H xs us Q I r h;obtain⟨Av,x,d,dd,rfl,rd,hi,q⟩:=h;obtain⟨u,t,rfl,ru,rt⟩:=vals2 r;cases(show t=Value.type T from rt);obtain⟨ty,e1,hi⟩:=bind_some (show(NU d).bind _=some (Dat.bool dd)from hi);split at hi
 ·rename_i hT;have gW:=(Option.some.inj hi).symm;injection gW with w5;have fin:∀tk,EP X pins σ Q (.bool dd) {s with toks:=tk}:=λtk=>⟨.bl dd,H,I.tok tk,rfl,q⟩;cases rd with
  |bO=>cases e1;cases(show u=Value.none from ru);exact kia_one PySem.W.kitx_none I.pT True.intro (by rw[mr _ _ _ (by simp) hT,w5]) (λz=>nomatch z) fin
  |bl y=>cases e1;cases(show u=Value.bool y from ru);exact kia_one PySem.W.kitx_bool I.pT True.intro (by rw[mr _ _ _ (by simp) hT,w5]) (λz=>nomatch z) fin
  |int i=>cases e1;obtain⟨t,z⟩:=(show ∃t,u=Value.int i t from ru);cases z;exact kia_one PySem.W.kitx_int I.pT True.intro (by rw[mr _ _ _ (by simp) hT,w5]) (λz=>nomatch z) fin
  |str y=>cases e1;obtain⟨t,z⟩:=(show ∃t,u=Value.str y t from ru);cases z;exact kia_one PySem.W.kitx_str I.pT True.intro (by rw[mr _ _ _ (by simp) hT,w5]) (λz=>nomatch z) fin
  | @lst a xs ds hq rs=>
   cases e1;cases(show u=Value.ref a from ru);obtain⟨ak,_,⟨o,m,h1,h2,_⟩,_⟩:=I.list hq.sq;exact kia_one PySem.W.kitx_list I.pT ⟨o,h1,h2⟩ (by rw[mr _ _ _ (by simp) hT,w5]) (λz=>nomatch z) fin
  | @tup a xs ds hq rs=>
   cases e1;cases(show u=Value.ref a from ru);obtain⟨ak,_,⟨o,h1,h2,_⟩,_⟩:=I.tuple hq.sq;exact kia_one PySem.W.kitx_tuple I.pT ⟨o,h1,h2⟩ (by rw[mr _ _ _ (by simp) hT,w5]) (λz=>nomatch z) fin
 ·cases hi
theorem Jk{r:Dat}(h:oE T d=some r):∃k,r=.bool k:=by
 obtain⟨t,e1,h⟩:=bind_some (show(NU d).bind _=some r from h);split at h
 ·cases h;exact⟨_,rfl⟩
 ·cases h
def bA:Dat->Dat->Option Dat:=λx y=>match x,y with
 | .list ds,.int i=>gD ds i
 | .tuple ds,.int i=>gD ds i
 |_,_=>none
theorem az.gD{i:Int}(r:az K H Av vs ds)(h:L2.gD ds i=some d):∃v,L2.gD vs i=some v/\aU K H Av v d:=by
 unfold L2.gD at h ⊢;rw[r.length];obtain⟨j,e1,h⟩:=bind_some h;obtain⟨v,hv,rv⟩:=r.get h;exact⟨v,by rw[e1];exact hv,rv⟩
def cutD (ds:List Dat) (lo hi:Option Int):List Dat:=(ds.drop (HT.cc ds.length 0 lo)).take (HT.cc ds.length ds.length hi-HT.cc ds.length 0 lo)
def SX (K:Fg) (f:ar->Option (Option Int)):TO:=λσ H Q=>∃Av ρ o,gG H Av/\fg K H Av σ ρ/\f ρ=some o/\∀H',bg H H'->Q o H'
abbrev UI (X:Cx) (e:Option Expr) (f:ar->Option (Option Int)):Prop:=PO X e (SX X.K f)
theorem C9{o:Option Expr}{t t':TO}(h:PO X o t)(m:∀σ H Q,t' σ H Q->t σ H Q):PO X o t':=λpins s σ H Q I q=>h pins s σ H Q I (m σ H Q q)
def qb:Dat->Option Int
 | .int i=>some i
 |_=>none
theorem AL{b:Int}(h:qb d=some b):d=.int b:=by
 cases d<;>first|(cases h;done)|(simp only[qb,Option.some.injEq]at h;rw[h])
def nD:ar->Option (Option Int):=λ_=>some none
def nC (f:ar->Option Dat):ar->Option (Option Int):=λρ=>(f ρ).bind λd=>(qb d).map some
def dm (aW:List (Option Nat)) (ρ:ar):ar:=aW.map λo=>o.bind λj=>(ρ[j]?).join
def bV (gt:Dat->Option cN) (ft:ar->Option Bool) (fe:ar->Option Dat) (kI:ar):List Dat->Option (List Dat)
 |[]=>some []
 |d::r=>(gt d).bind λas=>(ft (jE kI as)).bind λc=>if c=true then(fe (jE kI as)).bind λv=>(bV gt ft fe kI r).map (v::·)else bV gt ft fe kI r
def ky (aW:List (Option Nat)) (gt:Dat->Option cN) (ft:ar->Option Bool) (fe:ar->Option Dat) (fi:ar->Option Dat):ar->Option (List Dat):=λρ=>(fi ρ).bind λd=>(cI d).bind λds=>if ds.length<sizeLine then bV gt ft fe (dm aW ρ) ds else none
theorem fg.aW{σ:L2.St}(h:fg K H Av σ ρ)(aW:List (Option Nat)):fg K H Av (bZ aW σ) (dm aW ρ):=λi d e=>by
 unfold dm at e;rw[getElem?_map]at e;cases hc:aW[i]? with
 |none=>rw[hc]at e;cases e
 |some o=>
  rw[hc]at e;cases o with
  |none=>cases e
  |some j=>
   have e2:some ((ρ[j]?).join)=some (some d):=e;obtain⟨v,hv,r⟩:=h j d (join_some (Option.some.inj e2));refine⟨v,?_,r⟩;unfold bZ;rw[getElem?_map,hc];show some ((σ[j]?).join)=_;rw[hv];rfl
theorem fg.ib{σ:L2.St}(h:kE K H Av ws as)(hl:σ.length=ρ.length)(E:fg K H Av σ ρ):fg K H Av (oW σ ws) (jE ρ as):=by
 induction h generalizing σ ρ with
 |nil=>exact E
 | @cons i v d vs ds h r ih=>
  refine ih (σ:=σ.set i (some v)) (ρ:=ρ.set i (some d)) (by rw[length_set,length_set];exact hl) λj d' e=>?_;have eV:=ey e;rw[length_set]at eV;rcases aS e with⟨e1,q⟩|⟨e1,q⟩
  ·subst e1;cases q;exact⟨v,getElem?_set_self (by rw[hl];exact eV),h⟩
  ·obtain⟨u,a,b⟩:=E j d' q;exact⟨u,by rw[getElem?_set_ne (Ne.symm e1)];exact a,b⟩
theorem eX.refl:∀(a:L2.St),eX a a
 |[]=>trivial
 |none::a=>eX.refl a
 |some v::a=>⟨rfl,eX.refl a⟩
theorem eX.set:∀{a b:L2.St} {i:Nat} {x:Option V},eX a b->a[i]?=some none->eX a (b.set i x)
 |none::a,_::b,0,x,h,_=>h
 |some v::a,_::b,0,x,h,e=>by simp at e
 |none::a,_::b,i+1,x,h,e=>eX.set (a:=a) (b:=b) (i:=i) h (by simpa using e)
 |some v::a,_::b,i+1,x,h,e=>⟨h.1,eX.set (a:=a) (b:=b) (i:=i) h.2 (by simpa using e)⟩
 |[],_,_,_,_,e=>by simp at e
 |none::_,[],_,_,h,_=>h.elim
 |some _::_,[],_,_,h,_=>h.elim
theorem eX.ib{a b:L2.St}(h:kE K H Av ws as)(hs:∀p∈as,a[p.1]?=some none)(l:eX a b):eX a (oW b ws):=by
 induction h generalizing b with
 |nil=>exact l
 | @cons i v d vs ds h r ih=>exact ih (λp hp=>hs p (mem_cons_of_mem _ hp)) (eX.set l (hs _ mem_cons_self))
def kD (gt:Dat->Option cN) (aW:List (Option Nat)):Prop:=∀d as,gt d=some as->∀p∈as,aW[p.1]?=some none
theorem cV{aW:List (Option Nat)}(h:aW[i]?=some none):kD (aName i) aW:=λd as e p hp=>by
 cases e;have:p=(i,d):=by simpa using hp
 subst this;exact h
theorem BK{aW:List (Option Nat)}{fe fi:ar->Option Dat}(ht:kD gt aW):∀σ H Q,kc K (ky aW gt ft fe fi) σ H Q->rO aW (Po K (tF K fi)) (iQ K gt) (nj K ft) (tF K fe) σ H Q:=by
 rintro σ H Q ⟨Av,ρ,out,hA,hE,hf,q⟩;obtain⟨d,e1,hf⟩:=bind_some hf;obtain⟨ds,e2,hf⟩:=bind_some hf;split at hf
 ·rename_i hz;refine⟨Av,ρ,d,hA,hE,e1,λx H1 s1 r=>?_⟩;have main:∀J:It,Over K J x d ds->∃W:Nat->Nat->List V->Hp->Prop,(∃m,W 0 m [] H1)/\∀i m ys H,W i m ys H->ys.length<sizeLine/\
    ((J.stop i H/\∀D,H D=none->Q (.ref D) (upd H D (.lst ys)))\/
     (J.go i H/\∀x H',J.wV i H x H'->iQ K gt x (bZ aW σ) H' λgj H2=>eX (bZ aW σ) gj/\nj K ft gj H2 λb H3=>if b=true then tF K fe gj H3 λv H4=>∃m',m'<m/\W (i+1) m' (ys++[v]) H4 else ∃m',m'<m/\W (i+1) m' ys H3)):=by
   intro J ov;refine⟨λi m ys H2=>m=ds.length-i/\i<=ds.length/\bg H1 H2/\∃o1 o2,az K H2 Av ys o1/\o1.length<=i/\bV gt ft fe (dm aW ρ) (ds.drop i)=some o2/\out=o1++o2,
    ⟨_,rfl,zero_le _,bg.refl _,[],out,.nil,le_refl _,by rw[drop_zero];exact hf,rfl⟩,?_⟩
   rintro i m ys H2 ⟨rfl,hi,s2,o1,o2,ro,hl,hc,rfl⟩;refine⟨by have:=ro.length;omega,?_⟩;have rx:=r.same s2;cases gA:ds[i]? with
   |none=>
    have hle:ds.length<=i:=List.getElem?_eq_none_iff.mp gA;rw[drop_eq_nil_of_le hle]at hc;cases hc;refine .inl ⟨(ov i H2 _ rx).1 hle,λD hD=>q H2 D ys (s1.trans s2) hD (by rw[append_nil];exact ro)⟩
   |some di=>
    have eV:=ey gA;rw[drop_cons gA]at hc;obtain⟨as,a1,hc⟩:=bind_some (show(gt di).bind _=some o2 from hc);obtain⟨k,a2,hc⟩:=bind_some hc;obtain⟨go,yl⟩:=(ov i H2 _ rx).2 di gA;refine .inr ⟨go,λy H' hy=>?_⟩;obtain⟨eH,ry⟩:=yl y H' hy;subst eH;refine⟨Av,di,as,ry,a1,λws hw=>?_⟩;have cs:∀p∈as,(bZ aW σ)[p.1]?=some none:=λp hp=>by
     unfold bZ;rw[getElem?_map,ht di as a1 p hp];rfl
    have A2:=hA.same (s1.trans s2);have E2:fg K H' Av (oW (bZ aW σ) ws) (jE (dm aW ρ) as):=fg.ib hw (by unfold bZ dm;rw[length_map,length_map]) ((hE.same (s1.trans s2)).aW aW);refine⟨eX.ib hw cs (eX.refl _),Av,_,k,A2,E2,a2,λH3 s3=>?_⟩;cases k with
    |false=>
     rw[if_neg Bool.false_ne_true]at hc ⊢;exact⟨ds.length-(i+1),by omega,rfl,by omega,s2.trans s3,o1,o2,ro.same s3,by omega,hc,rfl⟩
    |true=>
     rw[if_pos rfl]at hc ⊢;obtain⟨dv,a3,hc⟩:=bind_some hc;obtain⟨o3,a4,hc⟩:=ba hc;subst hc;refine⟨Av,_,dv,A2.same s3,E2.same s3,a3,λv H4 s4 rv=>⟨ds.length-(i+1),by omega,rfl,by omega,s2.trans (s3.trans s4),o1++[dv],o3,(ro.same (s3.trans s4)).append (.cons rv .nil),?_,a4,?_⟩⟩
     ·rw[length_append,length_singleton];omega
     ·rw[append_assoc];rfl
  cases d with
  |list cU=>
   cases e2;obtain⟨a,xs,rfl,hq,rs⟩:=r.g9;exact⟨a,rfl,.inl ⟨⟨xs,hq.sq⟩,main _ nB⟩⟩
  |tuple cU=>
   cases e2;obtain⟨a,xs,rfl,hq,rs⟩:=r.fj;exact⟨a,rfl,.inr ⟨⟨xs,hq.sq⟩,main _ p4⟩⟩
  |_=>cases e2
 ·cases hf
def fL (f:ar->Option (List Dat)):ar->Option Dat:=λρ=>(f ρ).map .list
def fk:ar->Option Bool:=λ_=>some true
open PySem PySem.Spec PyProof.Rows L2
open PySem.W (Dat kqdOk)
variable {fs:ar->Option (List Dat)} in
def ID (i j:Nat) (fs:ar->Option (List Dat)):aw->Option Fl:=λΓ=>(fs (bj Γ)).bind λds=>match ds with
 |[d,d']=>some (.nx ((Γ.set i (some (.a7 d))).set j (some (.a7 d'))))
 |_=>none
variable {scope:Scope} {N':List Str}
theorem j4(hf:∀y∈scope.names,y.2≠.free:=by decide +kernel)(hc:∀y∈scope.names,y.2≠.cell:=by decide +kernel)(hk:scope.kind=.function:=by rfl)(hn:∀y∈scope.names,y.2=.local->scope.names.lookup y.1=some .local:=by decide +kernel)(nd:N'.Nodup:=by decide +kernel):qg X scope [] N' (N'.map λ_=>none):=by
 have rl:(relabel scope X.env).names=scope.names:=by
  unfold relabel;exact map_eq_self (l:=scope.names) λx hx=>by
   obtain⟨n,k⟩:=x;have:(k==NameKind.free)=false:=by simpa using hf _ hx
   simp[this]
 refine⟨closureFor_none hf,hc,hk,hn,nd,by rw[length_map],λx c h=>(by cases h),λx h=>?_,λi x j e1 e2=>?_⟩
 ·rw[rl]at h;rcases h with h|h
  ·exact absurd rfl (hc _ (PySem.mem_of_lookup h))
  ·exact absurd rfl (hf _ (PySem.mem_of_lookup h))
 ·rw[getElem?_map]at e2;cases h:N'[i]? with
  |none=>rw[h]at e2;cases e2
  |some y=>rw[h]at e2;cases e2
def yc (K:Fg):Sp:=λvs H Q _=>∃(a:Addr) (ns:List Int),vs=[.ref a]/\fK K H a (ns.map V.int)/\ns.length<=63/\∀H',Q (.bl true) H'
variable {k:Nat}
theorem Pd{f:Addr}(h:gJ P w K mg base jj k f fd ps (F8 K 1 F))(hF:∀ns:List Int,ns.length<=63->F [.list (ns.map .int)]=some (.bool true)):gJ P w K mg base jj k f fd ps (yc K):=
 h.imp λvs H Q E aP=>by
  obtain⟨a,ns,e,hS,hl,q⟩:=aP;subst e;refine⟨λ_=>False,[.list (ns.map .int)],.bool true,λ_ z=>z.elim,.cons (.lst ?_ (az.ints ns)) .nil,rfl,hF ns hl,λv H' _ r=>by rw[r.l9];exact q H'⟩;rcases hS with h|h
  ·exact .inl ⟨h,λz=>z⟩
  ·exact .inr h
theorem RM{l:PySem.W.OpenLaw}{q:Program}{loose:List Str}{XP:(Str->Option Value)->Heap->Prop}{YP:World->Heap->Prop}{d:DefRec}{K:Params->Fg}(hk:k<=100)(hn:l.most=some 63)(GW:d.params.defaults=[])(hY:∀(w:World) (h:Heap),YP w h->(K w.params).In h)(F:∀(w:World) (mg:Str->Option Value) (fa:Addr) (h:Heap),(K w.params).In h->h.Ns mainGlobals mg->mg d.name=some (.ref fa)->
   ∃fd:FuncData,(∀(s:Shared) (u:Value),BindsTo s fd ⟨[u],[]⟩ [("script",u)])/\∀base:Heap,(K w.params).In base->base.Ns mainGlobals mg->gJ l.prog w (K w.params) mg base jj 100 fa fd ["script"] (yc (K w.params))):
  PySem.W.WalkO q loose XP YP l.row.toRowW d [] (λf vs=>PySem.call f vs):=
 L2.M1 (n:=63) (k:=100) (x:="script") (CX:=λ_=>jj) (sp:=λw=>yc (K w.params)) hn (by decide) GW ⟨rfl,by decide,by decide⟩ hY F (λ_ _ a ns hl _ hS=>⟨a,ns,rfl,hS,hl,λ_=>rfl⟩) λ_ _ _ _ _ z=>z
open PySem PySem.Spec PyProof.Rows L2
open PySem.W (Dat kqdOk)
def KA (K:Fg):R2:=λx y H Q=>∃l b xs zs,x=.ref l/\y=.ref b/\fK K H l xs/\fK K H b zs/\xs.length+zs.length<=sizeLine/\∀p,H p=none->Q (.ref p) (upd H p (.lst (xs++zs)))
theorem vS:dS X (binaryOp .Add) (KA X.K):=by
 intro pins s σ H x y v u Q I rx ry h;obtain⟨l,b,xs,zs,rfl,rfl,hH,hB,hz,q⟩:=h;cases rx;cases ry;obtain⟨ak,r,⟨⟨cls,dd,data,sl⟩,n,ho,hc,TY,hd⟩,_⟩:=I.list hH;obtain⟨jl,r2,⟨⟨Wi,Hz,data2,Fy⟩,n2,nH,A5,hd02,hd2⟩,_⟩:=I.list hB;simp only at hc hd A5 hd2;subst hc hd A5 hd2;have h1:=r.length;have h2:=r2.length;have e:ak.toArray++jl.toArray=(ak++jl).toArray:=by simp
 refine PySem.concat_meets ⟨_,ho,rfl⟩ ⟨_,nH,rfl⟩ PySem.noFill_list_add PySem.seq_list_add PySem.F.slot_list_add PySem.F.entry_list_add (PySem.F.args_list_add_2 _ _) (list_addW l b ak.toArray jl.toArray n n2 dd Hz sl Fy (by rw[size_toArray,size_toArray];omega)) ⟨ho,nH,?_⟩;rw[e];exact⟨.ref _,_,I.P7 (t':=s.toks) (r.append r2) (by rw[length_append];omega),rfl,q _ I.fresh⟩
open PySem PySem.Spec PyProof.Rows L2
open PySem.W (Dat kqdOk)
def lV (i:Nat) (f:ar->Option (List Dat)):aw->Option Fl:=λΓ=>(f (bj Γ)).map λds=>.nx (Γ.set i (some (.a7 (.list ds))))
theorem xr{f:Str->Addr}:∀{fv:List Str} {y:Str},y∈fv->(fv.map λx=>(x,f x)).lookup y=some (f y)
 |x::r,y,h=>by
  rw[map_cons,List.lookup_cons];by_cases e:y=x
  ·subst e;simp
  ·have:(y==x)=false:=by simpa using e
   rw[this];exact xr (by simpa [e]using h)
theorem qK{f:Str->Addr}:∀{fv:List Str} {y:Str} {c:Addr},(fv.map λx=>(x,f x)).lookup y=some c->y∈fv/\c=f y
 |[],y,c,h=>by simp at h
 |x::r,y,c,h=>by
  rw[map_cons,List.lookup_cons]at h;by_cases e:y=x
  ·subst e;simp at h;exact⟨mem_cons_self,h.symm⟩
  ·have:(y==x)=false:=by simpa using e
   rw[this]at h;obtain⟨h1,h2⟩:=qK h;exact⟨mem_cons_of_mem _ h1,h2⟩
theorem fw{tn fv:List Str}{js:List Nat}(pW:closureFor scope X.env=pure (fv.map λx=>(x,(X.env.cells.lookup x).getD 0)))(hf:∀y∈scope.names,y.2=.free->y.1∈fv)(hc:∀y∈scope.names,y.2≠.cell)(hk:scope.kind=.function)(hn:∀y∈scope.names,y.2=.local->scope.names.lookup y.1=some .local)(nd:(tn++fv).Nodup)(hl:fv.length=js.length)(hs:∀x∈fv,∃c,X.env.cells.lookup x=some c)(hj:∀p∈fv.zip js,X.N[p.2]?=some p.1/\n8 X.env.scope p.1/\((relabel scope X.env).names.lookup p.1=some .cell\/(relabel scope X.env).names.lookup p.1=some .free)/\X.env.scope.names.lookup p.1≠some .local):
  qg X scope (fv.map λx=>(x,(X.env.cells.lookup x).getD 0)) (tn++fv) ((tn.map λ_=>none)++js.map some):=by
 refine⟨pW,hc,hk,hn,nd,by rw[length_append,length_append,length_map,length_map,hl],λy c h=>?_,λy h=>?_,λi x j e1 e2=>?_⟩
 ·obtain⟨h1,h2⟩:=qK h;obtain⟨c',e⟩:=hs y h1;rw[h2,e];rfl
 ·have hm:(y,NameKind.cell)∈(relabel scope X.env).names\/(y,NameKind.free)∈(relabel scope X.env).names:=h.elim (λz=>.inl (PySem.mem_of_lookup z)) λz=>.inr (PySem.mem_of_lookup z);have:y∈fv:=by
   rcases hm with hm|hm;all_goals
    obtain⟨⟨n,k⟩,hp,e⟩:=mem_map.mp hm;dsimp only at e;split at e
    ·rename_i Sw;have hk:k=.free:=by
      cases k<;>first|rfl|(simp at Sw)
     first
      |(cases e;done)
      |(cases e;exact hf _ hp hk)
    ·first
      |(cases e;done)
      |(cases e;exact absurd rfl (hc _ hp))
      |(cases e;exact hf _ hp rfl)
  exact⟨_,xr this⟩
 ·by_cases hi:i<tn.length
  ·rw[getElem?_append_left (by rw[length_map];exact hi),getElem?_map,getElem?_eq_getElem hi]at e2;cases e2
  ·rw[getElem?_append_right (by omega)]at e1;rw[getElem?_append_right (by rw[length_map];omega),length_map,getElem?_map]at e2;cases ej:js[i-tn.length]? with
   |none=>rw[ej]at e2;cases e2
   |some j'=>
    rw[ej]at e2;cases e2;refine hj (x,j) ?_;have h1:=(List.getElem?_eq_some_iff.mp e1);have h2:=(List.getElem?_eq_some_iff.mp ej);have h3:(fv.zip js)[i-tn.length]?=some (x,j):=by rw[List.getElem?_zip_eq_some];exact⟨e1,ej⟩
    exact mem_of_getElem? h3
open PySem PySem.Spec PyProof.Rows L2
open PySem.W (Dat kqdOk)
def l7:Dat->Bool
 | .none=>true| .bool _=>true| .int _=>true| .str _=>true
 |_=>false
def CU:Dat->Dat->Bool
 | .none,.none=>true
 | .bool a,.bool b=>a==b
 | .bool a,.int b=>(if a then 1 else 0)==b
 | .int a,.bool b=>a==(if b then 1 else 0)
 | .int a,.int b=>a==b
 | .str a,.str b=>a==b
 |_,_=>false
theorem aU.flat(r:aU K H Av v d)(h:l7 d=true):kZ v=true:=by
 cases r<;>first|rfl|cases h
theorem aU.CU{u:V}{e:Dat}(r:aU K H Av v d)(q:aU K H Av u e)(h:l7 d=true)(k:l7 e=true):vd v u=L3.CU d e:=by
 cases r<;>cases q<;>first|rfl|cases h|cases k
theorem az.flat{K:Fg}{H:Hp}{Av:gg}:∀{vs:List V} {ds:List Dat},az K H Av vs ds->ds.all l7=true->vs.all kZ=true
 |_,_,.nil,_=>rfl
 |_,_,.cons r t,h=>by
  simp only[all_cons,and_eq_true]at h ⊢;exact⟨r.flat h.1,t.flat h.2⟩
theorem az.Pm{K:Fg}{H:Hp}{Av:gg}{x:V}{dx:Dat}(rx:aU K H Av x dx)(hx:l7 dx=true):∀{vs:List V} {ds:List Dat},az K H Av vs ds->ds.all l7=true->zL x vs=ds.any λy=>CU y dx
 |_,_,.nil,_=>rfl
 |_,_,.cons r t,h=>by
  simp only[all_cons,and_eq_true]at h;unfold zL;rw[any_cons,any_cons,r.CU rx h.1 hx];have:=az.Pm rx hx t h.2;unfold zL at this;rw[this]
def Ts:Dat->Dat->Option Bool:=λx y=>match y with
 | .list ds=>if l7 x=true/\ds.all l7=true then some (ds.any λz=>CU z x)else none
 | .tuple ds=>if l7 x=true/\ds.all l7=true then some (ds.any λz=>CU z x)else none
 | .str j=>match x with
  | .str i=>some (!(Builtin.Str.occurrences j i 0 j.length 1).isEmpty)
  |_=>none
 |_=>none
def inD:Dat->Dat->Option Dat:=λx y=>(Ts x y).map .bool
theorem OR:lU K (λx y H Q=>T7 K false x y H Q\/(∃i j,x=.str i/\y=.str j/\Q (.bl (!(Builtin.Str.occurrences j i 0 j.length 1).isEmpty)) H)) inD:=by
 intro H Av x y dx dy d Q hA rx ry h q;obtain⟨k,e1,rfl⟩:=ba h;unfold Ts at e1;split at e1
 ·split at e1
  ·rename_i ds hc;cases e1;obtain⟨p,xs,rfl,hq,rs⟩:=ry.g9;refine .inl ⟨p,xs,rfl,.inl hq.sq,rx.flat hc.1,rs.flat hc.2,?_⟩;show Q (.bl (zL x xs)) H;rw[az.Pm rx hc.1 rs hc.2];exact q _ H (bg.refl H) (.bl _)
  ·cases e1
 ·split at e1
  ·rename_i ds hc;cases e1;obtain⟨p,xs,rfl,hq,rs⟩:=ry.fj;refine .inl ⟨p,xs,rfl,.inr hq.sq,rx.flat hc.1,rs.flat hc.2,?_⟩;show Q (.bl (zL x xs)) H;rw[az.Pm rx hc.1 rs hc.2];exact q _ H (bg.refl H) (.bl _)
  ·cases e1
 ·split at e1
  ·cases e1;exact .inr ⟨_,_,rx.iF,ry.iF,q _ H (bg.refl H) (.bl _)⟩
  ·cases e1
 ·cases e1
def zK:Dat->Bool
 | .none=>true
 |_=>false
theorem aU.VD(r:aU K H Av v d):decide (v=.bO)=zK d:=by cases r<;>rfl
theorem MK:lU K (λx y H Q=>y=.bO/\Q (.bl (decide (x=.bO))) H) (λx y=>if zK y=true then some (.bool (zK x))else none):=by
 intro H Av x y dx dy d Q hA rx ry h q;dsimp only at h;split at h
 ·rename_i hy;cases h;have e:dy=.none:=by cases dy<;>first|rfl|cases hy
  subst e;exact⟨ry.Sh,by rw[rx.VD];exact q _ H (bg.refl H) (.bl _)⟩
 ·cases h
def pg:Dat->Dat->Option Dat:=λx y=>if zK y=true then some (.bool (zK x))else none
def sd:List Dat->Option (List Dat)
 |[.list ds]=>some ds
 |[.tuple ds]=>some ds
 |_=>none
def gO:List Dat->Option Dat
 |[.list ds]=>some (.tuple ds)
 |[.tuple ds]=>some (.tuple ds)
 |_=>none
theorem sU:nO K (λxs H Q=>∃p ys,xs=[.ref p]/\((fK K H p ys/\∀l,H l=none->Q (.ref l) (upd H l (.tup ys)))\/(iN K H p ys/\Q (.ref p) H))) gO:=by
 intro H Av xs ds d Q hA r h q;unfold gO at h;split at h
 ·cases h;obtain⟨v,rfl,rv⟩:=r.eJ;obtain⟨p,xs,rfl,hq,rs⟩:=rv.g9;exact⟨p,xs,rfl,.inl ⟨hq.sq,λl hl=>q _ _ (bM hl _) (.pd hA hl rs)⟩⟩
 ·cases h;obtain⟨v,rfl,rv⟩:=r.eJ;have FD:=rv;obtain⟨p,xs,rfl,hq,rs⟩:=rv.fj;exact⟨p,xs,rfl,.inr ⟨hq.sq,q _ H (bg.refl H) FD⟩⟩
 ·cases h
open PySem PySem.Spec PyProof.Rows L2
open PySem.W (Dat kqdOk)
def ModT (K:Fg) (a:Addr) (ds:List Dat):Prop:=∃(xs:List V) (o:Obj) (ak:Array Value) (n:Nat),K.lookup a=some o/\o.cls=.type "tuple"/\o.data=.seq ak n/\ak.size<=sizeLine/\Vals xs ak.toList/\∀H Av,az K H Av xs ds
open PySem PySem.Spec PyProof.Rows L2
open PySem.W (Dat kqdOk)
theorem aO.set_own(hi:Γ[i]?=some (some (.own ds))):∀a,aO Av (Γ.set i (some (.own es))) ad a->aO Av Γ ad a:=by
 rintro a (z|⟨j,fs,e,m,q⟩)
 ·exact .inl z
 ·rcases aS e with⟨e1,_⟩|⟨e1,q1⟩
  ·subst e1;exact .inr ⟨j,_,hi,rfl,q⟩
  ·exact .inr ⟨j,fs,q1,m,q⟩
theorem aO.gw(hi:Γ[i]?=some (some (.own ds))):∀a,aO Av Γ ad a->aO Av (Γ.set i (some (.own es))) ad a:=by
 rintro a (z|⟨j,fs,e,m,q⟩)
 ·exact .inl z
 ·by_cases e1:j=i
  ·subst e1;exact .inr ⟨j,.own es,getElem?_set_self (ey hi),rfl,q⟩
  ·exact .inr ⟨j,fs,by rw[getElem?_set_ne (Ne.symm e1)];exact e,m,q⟩
theorem Ji(hi:Γ[i]?=some (some (.own ds)))(k:∀b o,H b=some o->b≠ad i->H' b=some o):lN H (aO Av Γ ad) H' (aO Av (Γ.set i (some (.own es))) ad):=
 λb o h n=>⟨k b o h λz=>n (.inr ⟨i,_,hi,rfl,z.symm⟩),λz=>n (aO.set_own hi b z)⟩
variable {ys:List V}
theorem GA.lend(G:GA K ah Av pn aF H σ Γ ad)(hi:Γ[i]?=some (some (.own ds)))(k:∀b o,H b=some o->b≠ad i->H' b=some o)(hn:H' (ad i)=some (.lst ys))(r:az K H' (aO Av Γ ad) ys es):
  GA K ah Av pn aF H' σ (Γ.set i (some (.own es))) ad:=by
 have eV:i<Γ.length:=ey hi;have kp:=Ji (Av:=Av) (es:=es) hi k;obtain⟨NN,g1,g2,g3,g4⟩:=G.own i ds hi;refine⟨λb o h=>k b o (G.same b o h) (bz h g4),G.j5,by rw[length_set];exact G.len,λj d' h=>?_,λj fs h=>?_,λj l fs gs h1 h2 m1 m2 e=>?_,λp hp=>(G.aF p hp).mono kp,λa fs e h=>?_,λj O fs h=>?_⟩
 ·rcases aS h with⟨_,q⟩|⟨_,q⟩
  ·cases q
  ·obtain⟨u,a,b⟩:=G.a7 j d' q;exact⟨u,a,b.mono kp⟩
 ·rcases aS h with⟨e,q⟩|⟨e,q⟩
  ·subst e;cases q;exact⟨ys,g1,hn,r.weak (aO.set_own hi),g4⟩
  ·obtain⟨zs,a,b,c,e'⟩:=G.own j fs q;exact⟨zs,a,k _ _ b λz=>e (G.Pl j i fs ds q hi z),c.mono kp,e'⟩
 ·rcases aS h1 with⟨e1,q1⟩|⟨e1,q1⟩
  ·rcases aS h2 with⟨e2,q2⟩|⟨e2,q2⟩
   ·rw[e1,e2]
   ·subst e1;exact G.inj j l _ gs hi q2 rfl m2 e
  ·rcases aS h2 with⟨e2,q2⟩|⟨e2,q2⟩
   ·subst e2;exact G.inj j l fs _ q1 hi m1 rfl e
   ·exact G.inj j l fs gs q1 q2 m1 m2 e
 ·rcases aS h with⟨z,_⟩|⟨_,q⟩
  ·subst z;exact G.pin a ds e hi
  ·exact G.pin a fs e q
 ·rcases aS h with⟨e,q⟩|⟨e,q⟩
  ·cases q
  ·obtain⟨zs,a,b,c,e'⟩:=G.obj j O fs q;exact⟨zs,a,k _ _ b λz=>e (G.inj j i _ _ q hi rfl rfl z),c.mono kp,e'⟩
abbrev HF:=aw->Option (Dat×aw)
def tH (K:Fg) (f:HF):TE:=λσ H Q=>∃ah Av pn aF Γ ad d af,GA K ah Av pn aF H σ Γ ad/\f Γ=some (d,af)/\∀v H' iM,GA K ah Av pn aF H' σ af iM->aU K H' (aO Av af iM) v d->Q v H'
def SW (K:Fg) (f:aw->Option (Bool×aw)):TT:=λσ H Q=>∃ah Av pn aF Γ ad d af,GA K ah Av pn aF H σ Γ ad/\f Γ=some (d,af)/\∀H' iM,GA K ah Av pn aF H' σ af iM->Q d H'
def NZ (K:Fg) (f:aw->Option (List Dat×aw)):TA:=λσ H Q=>∃ah Av pn aF Γ ad d af,GA K ah Av pn aF H σ Γ ad/\f Γ=some (d,af)/\∀vs H' iM,GA K ah Av pn aF H' σ af iM->az K H' (aO Av af iM) vs d->Q vs H'
abbrev PH (X:Cx) (e:Expr) (f:HF):Prop:=PE X e (tH X.K f)
abbrev YK (X:Cx) (e:Expr) (f:aw->Option (Bool×aw)):Prop:=PT X e (SW X.K f)
abbrev YL (X:Cx) (es:List Expr) (f:aw->Option (List Dat×aw)):Prop:=PA X es (NZ X.K f)
def iL (f:ar->Option Dat):HF:=λΓ=>match f (bj Γ)with
 |some d=>some (d,Γ)
 |none=>(f (c7 Γ)).bind λd=>if FC d=true then some (d,Γ)else none
def h2 (g:Dat->Dat->Option Dat) (fa fb:HF):HF:=λΓ=>(fa Γ).bind λp=>(fb p.2).bind λr=>(g p.1 r.1).map λd=>(d,r.2)
variable {hb ha:HF} {r:R2} {g:Dat->Dat->Option Dat}
theorem Dz(hr:lU K r g):∀σ H Q,tH K (h2 g ha hb) σ H Q->BG r (tH K ha) (tH K hb) σ H Q:=by
 rintro σ H Q ⟨ah,Av,pn,aF,Γ,ad,d,af,G,hf,q⟩;obtain⟨⟨dx,Γ1⟩,e1,hf⟩:=bind_some hf;obtain⟨⟨dy,iP⟩,e2,hf⟩:=bind_some hf;obtain⟨d',e3,hf⟩:=ba hf;cases hf;refine⟨ah,Av,pn,aF,Γ,ad,dx,Γ1,G,e1,λx H1 fJ G1 r1=>⟨ah,Av,pn,(x,dx)::aF,Γ1,fJ,dy,iP,G1.hide r1,e2,λy H2 qc G2 r2=>?_⟩⟩;exact hr H2 (aO Av iP qc) x y dx dy _ Q G2.gf (G2.aF (x,dx) mem_cons_self) r2 e3 λv H3 s3 r3=>q v H3 qc (G2.qj.grow s3) r3
theorem uJ{op:Operator}(ho:dS X (binaryOp op) r)(hd:lU X.K r g)(pa:PH X a ha)(pb:PH X b hb):PH X (.BinOp a op b pos) (h2 g ha hb):=bp (yg ho pa pb) (Dz hd)
def yk (f:HF):aw->Option (Bool×aw):=λΓ=>(f Γ).bind λp=>(lF p.1).map λk=>(k,p.2)
theorem Mz{op:CmpOp}(ho:dS X (compareOp op) r)(hd:lU X.K r g)(pa:PH X a ha)(pb:PH X b hb)(hm:behindInMarks op b=false):YK X (.Compare a [op] [b] pos) (yk (h2 g ha hb)):=rT (C6 ho pa pb hm) λσ H Q aP=>by
 obtain⟨ah,Av,pn,aF,Γ,ad,d,af,G,hf,q⟩:=aP;obtain⟨⟨dv,Γ1⟩,e1,hf⟩:=bind_some hf;obtain⟨k,e2,hf⟩:=ba hf;cases hf;have e3:=n6 e2;subst e3;exact Dz hd σ H _ ⟨ah,Av,pn,aF,Γ,ad,_,Γ1,G,e1,λv H' iM G' r=>⟨_,r.l9,q H' iM G'⟩⟩
theorem OQ:lU K (λx y H Q=>Ov K x y H Q\/Ou K x y H Q) bA:=by
 intro H Av x y dx dy d Q hA rx ry h q;unfold bA at h;split at h
 ·obtain⟨p,xs,rfl,hq,rs⟩:=rx.g9;obtain⟨v,hv,rv⟩:=rs.gD h;exact .inl ⟨p,xs,_,v,rfl,ry.cQ,hq.sq,hv,q v H (bg.refl H) rv⟩
 ·obtain⟨p,xs,rfl,hq,rs⟩:=rx.fj;obtain⟨v,hv,rv⟩:=rs.gD h;exact .inr ⟨p,xs,_,v,rfl,ry.cQ,hq.sq,hv,q v H (bg.refl H) rv⟩
 ·cases h
def mT:aw->Option (List Dat×aw):=λΓ=>some ([],Γ)
def jf (f:HF) (g:aw->Option (List Dat×aw)):aw->Option (List Dat×aw):=λΓ=>(f Γ).bind λp=>(g p.2).map λr=>(p.1::r.1,r.2)
def Jv (g:aw->Option (List Dat×aw)):HF:=λΓ=>(g Γ).bind λp=>if p.1.length<=sizeLine then some (.tuple p.1,p.2)else none
def Ei (g:aw->Option (List Dat×aw)):HF:=λΓ=>(g Γ).bind λp=>if p.1.length<=sizeLine then some (.list p.1,p.2)else none
def pF (g:List Dat->Option Dat) (fs:aw->Option (List Dat×aw)):HF:=λΓ=>(fs Γ).bind λp=>(g p.1).map λd=>(d,p.2)
variable {hs:aw->Option (List Dat×aw)}
theorem M8{r:List V->Hp->VK->Prop}{g:List Dat->Option Dat}(hr:nO K r g):∀σ H Q,tH K (pF g hs) σ H Q->Kq r (NZ K hs) σ H Q:=by
 rintro σ H Q ⟨ah,Av,pn,aF,Γ,ad,d,af,G,hf,q⟩;obtain⟨⟨ds,Γ1⟩,e1,hf⟩:=bind_some hf;obtain⟨d',e2,hf⟩:=ba hf;cases hf;exact⟨ah,Av,pn,aF,Γ,ad,ds,Γ1,G,e1,λxs H1 fJ G1 r1=>hr H1 _ xs ds _ Q G1.gf r1 e2 λv H2 s2 r2=>q v H2 fJ (G1.grow s2) r2⟩
variable {es:List Expr} {p:Pos}
theorem FX{r:List V->Hp->VK->Prop}{g:List Dat->Option Dat}(hc:kH X (.type T) r)(hd:nO X.K r g)(hm:X.mg x=none)(pa:YL X (e::es) hs)(hg:Gl X x:=by rfl)(hv:bootBuiltins x=some (.type T):=by rfl)(hn:x≠"__name__":=by decide)(jx:(x==("__debug__" : Str))=false:=by decide)(he:starEach (e::es) X.env=(false,eval e X.env)::starEach es X.env:=by rfl)(dO:(backTo pos (starEach es X.env)).any (·.1)=false:=by rfl):PH X (.Call (.Name x p) (e::es) [] pos) (pF g hs):=bp (nA hc hg hm hv pa hn jx he dO) (M8 hd)
def Lp (n:Nat) (F:List Dat->Option Dat) (fs:aw->Option (List Dat×aw)):HF:=λΓ=>(fs Γ).bind λp=>if p.1.length=n then(F p.1).map λd=>(d,p.2)else none
def WI (K:Fg) (n:Nat) (F:List Dat->List Dat->Option (Dat×List Dat)):Sp:=λvs H Q _=>∃Av a ws xs ds es d cU,vs=.ref a::ws/\gG H Av/\Av a/\H a=some (.lst xs)/\az K H Av xs ds/\az K H Av ws es/\es.length+1=n/\F ds es=some (d,cU)/\
 ∀v H' ys,(∀b o,H b=some o->b≠a->H' b=some o)->H' a=some (.lst ys)->az K H' Av ys cU->aU K H' Av v d->Q v H'
structure fM (P:Program) (w:World) (K:Fg) (mg:Str->Option Value) (base:Heap) (k:Nat) (x:Str) (ps:List Str) (n:Nat) (F:List Dat->List Dat->Option (Dat×List Dat)):Prop where
 ex:∃(f:Addr) (fd:FuncData),gJ P w K mg base jj k f fd ps (WI K n F)/\mg x=some (.ref f)/\keepIn K (.ref f)=true/\Binds K fd ps []
variable {j:Nat}
theorem fM.up{F:List Dat->List Dat->Option (Dat×List Dat)}(D:fM P w K mg base j x ps n F)(h:j<=k):fM P w K mg base k x ps n F:=by
 obtain⟨f,fd,h1,h2⟩:=D.ex;exact⟨f,fd,h1.mono h,h2⟩
def pE (i n:Nat) (F:List Dat->List Dat->Option (Dat×List Dat)) (fs:aw->Option (List Dat×aw)):HF:=λΓ=>match Γ[i]? with
 |some (some (.own _))=>(fs Γ).bind λp=>match p.2[i]? with
  |some (some (.own ds))=>if p.1.length+1=n then(F ds p.1).map λr=>(r.1,p.2.set i (some (.own r.2)))else none
  |_=>none
 |_=>none
def startM (N:List Str) (ds es:List Dat):aw:=some (.own ds)::(es.map (λd=>some (.a7 d))++List.replicate (N.length-(es.length+1)) none)
theorem He{a:Addr}{ws:List V}{es:List Dat}(hA:gG H Av)(ha:Av a)(hx:H a=some (.lst xs))(rx:az K H Av xs ds)(qv:az K H Av ws es):
  GA K (λb=>if b=a then none else H b) (λb=>Av b/\b≠a) (some a) [] H (start N (.ref a::ws)) (startM N ds es) (λ_=>a):=by
 have p8:∀(i:Nat) (s:Slot),(startM N ds es)[i+1]?=some (some s)->s.mt=false:=λi s h=>by
  unfold startM at h;rw[getElem?_cons_succ]at h;by_cases hi:i<es.length
  ·rw[getElem?_append_left (by rw[length_map];exact hi),getElem?_map,getElem?_eq_getElem hi]at h;cases h;rfl
  ·rw[getElem?_append_right (by rw[length_map];omega),getElem?_replicate]at h;split at h<;>cases h
 have wk:∀b,aO (λb=>Av b/\b≠a) (startM N ds es) (λ_=>a) b->Av b:=by
  rintro b (z|⟨i,fs,_,_,rfl⟩)
  ·exact z.1
  ·exact ha
 refine⟨λb o h=>?_,λb z=>?_,?_,λi d h=>?_,λi fs h=>?_,λi j fs gs h1 h2 m1 m2 _=>?_,λp hp=>absurd hp (by simp),(λa' fs e _=>by cases e;rfl),λi O fs h=>?_⟩
 ·split at h
  ·cases h
  ·exact h
 ·obtain⟨o,e⟩:=hA b z.1;exact⟨o,by rw[if_neg z.2];exact e⟩
 ·unfold L2.start startM;simp only[map_cons,cons_append,length_cons,length_append,length_map,length_replicate,qv.length]
 ·cases i with
  |zero=>cases h
  |succ i=>
   unfold startM at h;rw[getElem?_cons_succ]at h;by_cases hi:i<es.length
   ·rw[getElem?_append_left (by rw[length_map];exact hi),getElem?_map,getElem?_eq_getElem hi]at h;cases h;obtain⟨v,hv,rv⟩:=qv.get (getElem?_eq_getElem hi);refine⟨v,?_,rv.weak wk⟩;unfold L2.start;rw[map_cons,cons_append,getElem?_cons_succ,getElem?_append_left (by rw[length_map,qv.length];exact hi),getElem?_map,hv];rfl
   ·rw[getElem?_append_right (by rw[length_map];omega),getElem?_replicate]at h;split at h<;>cases h
 ·cases i with
  |zero=>cases h;exact⟨xs,rfl,hx,rx.weak wk,by rw[if_pos rfl]⟩
  |succ i=>exact absurd (p8 i _ h) (by simp[Slot.mt])
 ·cases i with
  |succ i=>exact absurd (p8 i _ h1) (by rw[m1];decide)
  |zero=>
   cases j with
   |succ j=>exact absurd (p8 j _ h2) (by rw[m2];decide)
   |zero=>rfl
 ·cases i with
  |zero=>cases h
  |succ i=>exact absurd (p8 i _ h) (by simp[Slot.mt])
def runM (N:List Str) (g:aw->Option Fl) (ds es:List Dat):Option (Dat×List Dat):=match g (startM N ds es)with
 |some (.rm d af)=>match (af[0]? : Option (Option Slot))with
  |some (some (.own cU))=>some (d,cU)
  |_=>none
 |_=>none
variable {g:aw->Option Fl}
theorem Qp{F:List Dat->List Dat->Option (Dat×List Dat)}(U:nM K x qual st fa fd)(hm:mg x=some (.ref fa))(hB:Binds K fd ps [])(S:gi N ps (bf st))(hn:ps.length=n)(hbody:∀(bF:Value) (A:Around) (outer:List Env) (s:Shared) (H:Hp) (E:XK),cF k (A.deeper (envOfC qual (bf st) s.heap.objs.size fa bF))->Rk (jM jj P w K mg base N qual (bf st) fa bF A outer s H E).oB (dj st) g)(hF:∀ds es d cU,es.length+1=n->F ds es=some (d,cU)->runM N g ds es=some (d,cU)):fM P w K mg base (k+1) x ps n F:=by
 refine⟨fa,fd,U.ok S (λvs H Q E h=>?_) (λbF A outer s H vs Q E hr h=>?_),hm,U.kp,hB⟩
 ·obtain⟨Av,a,ws,xs,ds,es,d,cU,rfl,_,_,_,_,r,hl,_⟩:=h;rw[length_cons,r.length,hl,hn]
 ·obtain⟨Av,a,ws,xs,ds,es,d,cU,rfl,hA,ha,hx,rx,qv,hl,hd,q⟩:=h;have dR:=hF ds es d cU hl hd;unfold runM at dR;refine⟨_,hbody bF A outer s H E hr,?_⟩;split at dR
  ·rename_i d1 Γ1 hg;split at dR
   ·rename_i ds1 h0;cases dR;refine⟨_,_,some a,[],startM N ds es,_,⟨_,He hA ha hx rx qv⟩,hg,λbH v H' iM G' rv=>?_⟩;obtain⟨ys,y1,y2,y3,y4⟩:=G'.own 0 _ h0;have ea:iM 0=a:=G'.pin a _ rfl h0;have wk:∀b,Av b->aO (λb=>Av b/\b≠a) Γ1 iM b:=λb z=>by
     by_cases eb:b=a
     ·exact .inr ⟨0,_,h0,rfl,ea.trans eb.symm⟩
     ·exact .inl ⟨z,eb⟩
    exact q v H' ys (λb o h ne=>G'.same b o (by rw[if_neg ne];exact h)) (by rw[<- ea];exact y2) (y3.weak wk) (rv.weak wk)
   ·cases dR
  ·cases dR
def uw (i:Nat) (f:HF):aw->Option Fl:=λΓ=>(f Γ).map λp=>.nx (p.2.set i (some (.a7 p.1)))
def DI (gt:Dat->Option cN) (f:HF):aw->Option Fl:=λΓ=>(f Γ).bind λp=>(gt p.1).map λas=>.nx (setG p.2 as)
def oX (f:HF):aw->Option Fl:=λΓ=>(f Γ).map λp=>.rm p.1 p.2
variable {h:HF}
theorem yZ(pe:PH X e h):Rl X (.Return (some e) pos) (oX h):=bY (uH pe) λD σ H aP=>by
 obtain⟨ah,Av,pn,aF,Γ,fl,⟨ad,G⟩,hf,q⟩:=aP;obtain⟨⟨d,Γ1⟩,e1,hf⟩:=ba hf;subst hf;exact⟨ah,Av,pn,aF,Γ,ad,d,Γ1,G,e1,λv H' iM G' r=>q σ v H' iM G' r⟩
def tj (ft:aw->Option (Bool×aw)) (g1 g2:aw->Option Fl):aw->Option Fl:=λΓ=>(ft Γ).bind λp=>if p.1=true then g1 p.2 else g2 p.2
theorem az.set{K:Fg}{H:Hp}{Av:gg}:∀{vs:List V} {ds:List Dat} {j:Nat} {v:V} {d:Dat},az K H Av vs ds->aU K H Av v d->az K H Av (vs.set j v) (ds.set j d)
 |_,_,_,_,_,.nil,_=>.nil
 |_,_,0,_,_,.cons _ r,h=>.cons h r
 |_,_,j+1,_,_,.cons a r,h=>.cons a (az.set (j:=j) r h)
def yH (i:Nat) (k:Int) (f:HF):aw->Option Fl:=λΓ=>(f Γ).bind λp=>match p.2[i]? with
 |some (some (.own ds))=>(mO ds.length k).map λj=>.nx (p.2.set i (some (.own (ds.set j p.1))))
 |_=>none
def WH (K:Fg) (n:Nat) (F:List Dat->Option (List Dat)):Sp:=λvs H Q _=>∃Av ds out,gG H Av/\az K H Av vs ds/\ds.length=n/\F ds=some out/\∀H1 p xs,bg H H1->H1 p=none->az K H1 Av xs out->Q (.ref p) (upd H1 p (.lst xs))
structure y0 (P:Program) (w:World) (K:Fg) (mg:Str->Option Value) (base:Heap) (k:Nat) (x:Str) (ps:List Str) (n:Nat) (F:List Dat->Option (List Dat)):Prop where
 ex:∃(f:Addr) (fd:FuncData),gJ P w K mg base jj k f fd ps (WH K n F)/\mg x=some (.ref f)/\keepIn K (.ref f)=true/\Binds K fd ps []
theorem y0.up{F:List Dat->Option (List Dat)}(D:y0 P w K mg base j x ps n F)(h:j<=k):y0 P w K mg base k x ps n F:=by
 obtain⟨f,fd,h1,h2⟩:=D.ex;exact⟨f,fd,h1.mono h,h2⟩
def JC (n:Nat) (F:List Dat->Option (List Dat)) (fs:ar->Option (List Dat)):ar->Option (List Dat):=λρ=>(fs ρ).bind λds=>if ds.length=n then F ds else none
variable {px:Pos}
theorem Qo{fs:ar->Option (List Dat)}{F:List Dat->Option (List Dat)}(U:nM K x qual st fa fd)(hm:mg x=some (.ref fa))(hB:Binds K fd ps [])(S:gi N ps (bf st))(hn:ps.length=n){ex:Expr}(hb:dj st=[.Return (some ex) px])(hbody:∀(bF:Value) (A:Around) (outer:List Env) (s:Shared) (H:Hp) (E:XK),cF k (A.deeper (envOfC qual (bf st) s.heap.objs.size fa bF))->PE (jM jj P w K mg base N qual (bf st) fa bF A outer s H E).oB ex (kc K fs))(hF:∀ds out,ds.length=n->F ds=some out->fs (c7 (cY N ds))=some out):y0 P w K mg base (k+1) x ps n F:=by
 have dO:ps.length<=N.length:=by have:=congrArg List.length S.pre;rw[length_take]at this;omega
 refine⟨fa,fd,U.ok S (λvs H Q E h=>?_) (λbF A outer s H vs Q E hr h=>?_),hm,U.kp,hB⟩
 ·obtain⟨Av,ds,d,_,r,hl,_⟩:=h;rw[r.length,hl,hn]
 ·obtain⟨Av,ds,out,hA,r,hl,hd,q⟩:=h;obtain⟨ad,G⟩:=tO (K:=K) (N:=N) hA r (by omega);rw[hb];exact⟨_,C8 (uH (hbody bF A outer s H E hr)),Av,c7 (cY N ds),out,hA,G.rh,hF ds out hl hd,λH1 p xs s1 hp r1=>q H1 p xs s1 hp r1⟩
open PySem PySem.Spec PyProof.Rows L2
open PySem.W (Dat kqdOk)
def yq (K:Fg) (J:It) (xs:List V) (jZ:List Dat) (ds:List Dat):Prop:=∀(i:Nat) (H:Hp) (Av:gg),az K H Av xs jZ->(ds.length<=i->J.stop i H)/\(∀di,ds[i]?=some di->J.go i H/\∀y H',gG H Av->J.wV i H y H'->bg H H'/\aU K H' Av y di)
theorem Over.s{x:V}(o:Over K J x d ds):yq K J [x] [d] ds:=λi H Av r=>by
 obtain⟨v,e,rv⟩:=r.eJ;cases e;obtain⟨h1,h2⟩:=o i H Av rv;refine⟨h1,λdi hd=>?_⟩;obtain⟨g,y⟩:=h2 di hd;refine⟨g,λz H' _ hz=>?_⟩;obtain⟨e,r'⟩:=y z H' hz;subst e;exact⟨bg.refl _,r'⟩
def Km (K:Fg) (fi:ar->Option (List Dat)):TI:=λσ H R=>∃Av ρ ds,gG H Av/\fg K H Av σ ρ/\fi ρ=some ds/\∀J xs jZ H1,bg H H1->az K H1 Av xs jZ->yq K J xs jZ ds->R J H1
abbrev UH (X:Cx) (tg iter:Expr) (fi:ar->Option (List Dat)):Prop:=PI X tg iter (Km X.K fi)
variable {iter:Expr}
theorem kR{t t':TI}(h:PI X tg iter t)(m:∀σ H R,t' σ H R->t σ H R):PI X tg iter t':=λpins s σ H R I q=>h pins s σ H R I (m σ H R q)
def xA (f:ar->Option Dat):ar->Option (List Dat):=λρ=>(f ρ).bind cI
variable {fs:ar->Option (List Dat)} in
def qP (rg:List Dat->Option (List Dat)) (fs:ar->Option (List Dat)):ar->Option (List Dat):=λρ=>(fs ρ).bind rg
variable {fi:ar->Option (List Dat)}
def lW (gt:Dat->Option cN) (gb:aw->Option Fl) (fi:ar->Option (List Dat)):aw->Option Fl:=λΓ=>(fi (bj Γ)).bind λds=>forL gt gb ds Γ
theorem v9{D:Ends}{jZ:List Dat}{σ:L2.St}{H1:Hp}{fl:Fl}(ov:yq K J xs jZ ds)(G:GA K ah Av pn aF H1 σ Γ ad)(rx:az K H1 (aO Av Γ ad) xs jZ)(hf:forL gt gb ds Γ=some fl)(q:JH K ah Av pn aF D fl):
  ∃W:Nat->Nat->L2.St->Hp->Prop,(∃m,W 0 m σ H1)/\∀i m σ H,W i m σ H->
   (J.stop i H/\D.nx σ H)\/(J.go i H/\∃N:L2.St->Hp->Prop,(∀bH H',N bH H'->∃m',m'<m/\W (i+1) m' bH H')/\∀x H',J.wV i H x H'->iQ K gt x σ H' λgj H2=>yB K gb {D with nx:=N,ct:=N,bk:=D.nx} gj H2):=by
 have Su:∀{vs:List V} {us:List Dat} {aF:Hid} {H:Hp} {σ:L2.St} {Γ:aw} {ad:Nat->Addr},GA K ah Av pn aF H σ Γ ad->az K H (aO Av Γ ad) vs us->GA K ah Av pn (vs.zip us++aF) H σ Γ ad:=by
  intro vs us aF H σ Γ ad G r;refine⟨G.same,G.j5,G.len,G.a7,G.own,G.inj,λp hp=>?_,G.pin,G.obj⟩;rcases mem_append.mp hp with h|h
  ·clear G hp;induction vs generalizing us with
   |nil=>simp at h
   |cons v vs ih=>
    cases r with
    |cons r1 r2=>
     rw[zip_cons_cons]at h;rcases mem_cons.mp h with e|h
     ·subst e;exact r1
     ·exact ih r2 h
  ·exact G.aF p h
 have vF:∀{vs:List V} {us:List Dat} {aF:Hid} {H:Hp} {σ:L2.St} {Γ:aw} {ad:Nat->Addr},GA K ah Av pn (vs.zip us++aF) H σ Γ ad->GA K ah Av pn aF H σ Γ ad:=λG=>⟨G.same,G.j5,G.len,G.a7,G.own,G.inj,λp hp=>G.aF p (mem_append_right _ hp),G.pin,G.obj⟩;have back:∀{vs:List V} {us:List Dat} {aF:Hid} {H:Hp} {σ:L2.St} {Γ:aw} {ad:Nat->Addr},vs.length=us.length->GA K ah Av pn (vs.zip us++aF) H σ Γ ad->az K H (aO Av Γ ad) vs us:=by
  intro vs us aF H σ Γ ad hl G;have hp:∀p∈vs.zip us,aU K H (aO Av Γ ad) p.1 p.2:=λp hp=>G.aF p (mem_append_left _ hp);clear G;induction vs generalizing us with
  |nil=>cases us with|nil=>exact .nil|cons _ _=>simp at hl
  |cons v vs ih=>
   cases us with
   |nil=>simp at hl
   |cons u us=>
    rw[zip_cons_cons]at hp;exact .cons (hp (v,u) mem_cons_self) (ih (by simpa using hl) λp h=>hp p (mem_cons_of_mem _ h))
 have Xj:=rx.length;refine⟨λi m σ H=>m=ds.length-i/\i<=ds.length/\∃Γ,lO K ah Av pn (xs.zip jZ++aF) H σ Γ/\forL gt gb (ds.drop i) Γ=some fl,⟨_,rfl,zero_le _,Γ,⟨ad,Su G rx⟩,by rw[drop_zero];exact hf⟩,?_⟩;rintro i m σ H ⟨rfl,hi,Γ,⟨ad,G⟩,hf⟩;have rx:=back Xj G;cases gA:ds[i]? with
 |none=>
  have hl:ds.length<=i:=List.getElem?_eq_none_iff.mp gA;rw[drop_eq_nil_of_le hl]at hf;cases hf;exact .inl ⟨(ov i H _ rx).1 hl,q σ H ⟨ad,vF G⟩⟩
 |some di=>
  have eV:=ey gA;rw[drop_cons gA]at hf;obtain⟨as,e1,hf⟩:=bind_some (show(gt di).bind _=some fl from hf);obtain⟨r9,e2,hf⟩:=bind_some hf;obtain⟨go,yl⟩:=(ov i H _ rx).2 di gA;refine .inr ⟨go,λbH H'=>∃af,lO K ah Av pn (xs.zip jZ++aF) H' bH af/\forL gt gb (ds.drop (i+1)) af=some fl,λbH H' ⟨af,G',h'⟩=>⟨ds.length-(i+1),by omega,rfl,by omega,af,G',h'⟩,λy H' hy=>?_⟩;obtain⟨sH,ry⟩:=yl y H' G.gf hy;refine⟨aO Av Γ ad,di,as,ry,e1,λws hw=>⟨ah,Av,pn,xs.zip jZ++aF,setG Γ as,r9,⟨ad,GA.ib hw (λ_ z=>z) (G.grow sH)⟩,e2,?_⟩⟩;cases r9 with
  |nx af=>exact λgj H2 G2=>⟨af,G2,hf⟩
  |ct af=>exact λgj H2 G2=>⟨af,G2,hf⟩
  |bk af=>cases hf;exact λgj H2 ⟨qc,G2⟩=>q gj H2 ⟨qc,vF G2⟩
  |rt v=>cases hf;exact q
  |rm v af=>cases hf;exact λgj v2 H2 qc G2 r2=>q gj v2 H2 qc (vF G2) r2
def fB (aW:List (Option Nat)) (gt:Dat->Option cN) (ft:ar->Option Bool) (fe:ar->Option Dat) (fi:ar->Option (List Dat)):ar->Option (List Dat):=λρ=>(fi ρ).bind λds=>if ds.length<sizeLine then bV gt ft fe (dm aW ρ) ds else none
theorem BI{aW:List (Option Nat)}{fe:ar->Option Dat}(ht:kD gt aW):∀σ H Q,kc K (fB aW gt ft fe fi) σ H Q->rO aW (Km K fi) (iQ K gt) (nj K ft) (tF K fe) σ H Q:=by
 rintro σ H Q ⟨Av,ρ,out,hA,hE,hf,q⟩;obtain⟨ds,e1,hf⟩:=bind_some hf;split at hf
 ·rename_i hz;refine⟨Av,ρ,ds,hA,hE,e1,λJ xs jZ H1 s1 r ov=>?_⟩;refine⟨λi m ys H2=>m=ds.length-i/\i<=ds.length/\bg H1 H2/\∃o1 o2,az K H2 Av ys o1/\o1.length<=i/\bV gt ft fe (dm aW ρ) (ds.drop i)=some o2/\out=o1++o2,
   ⟨_,rfl,zero_le _,bg.refl _,[],out,.nil,le_refl _,by rw[drop_zero];exact hf,rfl⟩,?_⟩
  rintro i m ys H2 ⟨rfl,hi,s2,o1,o2,ro,hl,hc,rfl⟩;refine⟨by have:=ro.length;omega,?_⟩;have rx:=r.same s2;cases gA:ds[i]? with
  |none=>
   have hle:ds.length<=i:=List.getElem?_eq_none_iff.mp gA;rw[drop_eq_nil_of_le hle]at hc;cases hc;refine .inl ⟨(ov i H2 _ rx).1 hle,λD hD=>q H2 D ys (s1.trans s2) hD (by rw[append_nil];exact ro)⟩
  |some di=>
   have eV:=ey gA;rw[drop_cons gA]at hc;obtain⟨as,a1,hc⟩:=bind_some (show(gt di).bind _=some o2 from hc);obtain⟨k,a2,hc⟩:=bind_some hc;obtain⟨go,yl⟩:=(ov i H2 _ rx).2 di gA;refine .inr ⟨go,λy H' hy=>?_⟩;obtain⟨sH,ry⟩:=yl y H' (hA.same (s1.trans s2)) hy;refine⟨Av,di,as,ry,a1,λws hw=>?_⟩;have cs:∀p∈as,(bZ aW σ)[p.1]?=some none:=λp hp=>by
    unfold bZ;rw[getElem?_map,ht di as a1 p hp];rfl
   have A2:=hA.same (s1.trans (s2.trans sH));have E2:fg K H' Av (oW (bZ aW σ) ws) (jE (dm aW ρ) as):=fg.ib hw (by unfold bZ dm;rw[length_map,length_map]) ((hE.same (s1.trans (s2.trans sH))).aW aW);refine⟨eX.ib hw cs (eX.refl _),Av,_,k,A2,E2,a2,λH3 s3=>?_⟩;cases k with
   |false=>
    rw[if_neg Bool.false_ne_true]at hc ⊢;exact⟨ds.length-(i+1),by omega,rfl,by omega,s2.trans (sH.trans s3),o1,o2,ro.same (sH.trans s3),by omega,hc,rfl⟩
   |true=>
    rw[if_pos rfl]at hc ⊢;obtain⟨dv,a3,hc⟩:=bind_some hc;obtain⟨o3,a4,hc⟩:=ba hc;subst hc;refine⟨Av,_,dv,A2.same s3,E2.same s3,a3,λv H4 s4 rv=>⟨ds.length-(i+1),by omega,rfl,by omega,s2.trans (sH.trans (s3.trans s4)),o1++[dv],o3,(ro.same (sH.trans (s3.trans s4))).append (.cons rv .nil),?_,a4,?_⟩⟩
    ·rw[length_append,length_singleton];omega
    ·rw[append_assoc];rfl
 ·cases hf
def F3 (K:Fg) (f:aw->Option (List Dat×aw)):TE:=λσ H Q=>∃ah Av pn aF Γ ad d af,GA K ah Av pn aF H σ Γ ad/\f Γ=some (d,af)/\∀H1 p xs fJ,GA K ah Av pn aF H1 σ af fJ->H1 p=none->az K H1 (aO Av af fJ) xs d->Q (.ref p) (upd H1 p (.lst xs))
def hL (f:aw->Option (List Dat×aw)):HF:=λΓ=>(f Γ).map λp=>(.list p.1,p.2)
def km:ar->aw:=λρ=>ρ.map λo=>o.map Slot.a7
def kA (gt:Dat->Option cN) (fe:HF) (tl:aw):List Dat->List Dat->Option (List Dat×List Dat)
 |[],ds=>some ([],ds)
 |x::r,ds=>(gt x).bind λas=>(fe (setG (some (.own ds)::tl) as)).bind λp=>match (p.2[0]? : Option (Option Slot))with
  |some (some (.own cU))=>(kA gt fe tl r cU).map λq=>(p.1::q.1,q.2)
  |_=>none
def m9 (i:Nat) (cA:List (Option Nat)) (gt:Dat->Option cN) (fe:HF) (fi:ar->Option (List Dat)):aw->Option (List Dat×aw):=λΓ=>match Γ[i]? with
 |some (some (.own ds))=>(fi (bj Γ)).bind λak=>if ak.length<sizeLine then(kA gt fe (km (dm cA (bj Γ))) ak ds).map λq=>(q.1,Γ.set i (some (.own q.2)))else none
 |_=>none
theorem zM{es:List Dat}(hi:Γ[i]?=some (some (.own ds))):bj (Γ.set i (some (.own es)))=bj Γ:=by
 unfold bj;apply List.ext_getElem?
 intro j;rw[getElem?_map,getElem?_map];by_cases e:j=i
 ·subst e;rw[getElem?_set_self (ey hi),hi];rfl
 ·rw[getElem?_set_ne (Ne.symm e)]
theorem mP{s:Slot}(h:(km ρ)[j]?=some (some s)):∃d,s=.a7 d/\ρ[j]?=some (some d):=by
 unfold km at h;rw[getElem?_map]at h;cases e:ρ[j]? with
 |none=>rw[e]at h;cases h
 |some o=>
  rw[e]at h;cases o with
  |none=>cases h
  |some d=>cases h;exact⟨d,rfl,rfl⟩
theorem Af{a:Addr}{NH:L2.St}{Kb:ar}(hA:gG H Av)(ha:Av a)(hx:H a=some (.lst xs))(rx:az K H Av xs ds)(E:fg K H Av NH Kb)(hl:NH.length=Kb.length):
  GA K (λb=>if b=a then none else H b) (λb=>Av b/\b≠a) (some a) [] H (some (.ref a)::NH) (some (.own ds)::km Kb) (λ_=>a):=by
 have wk:∀b,aO (λb=>Av b/\b≠a) (some (.own ds)::km Kb) (λ_=>a) b->Av b:=by
  rintro b (z|⟨i,fs,_,_,rfl⟩)
  ·exact z.1
  ·exact ha
 refine⟨λb o h=>?_,λb z=>?_,?_,λi d h=>?_,λi fs h=>?_,λi j fs gs h1 h2 m1 m2 _=>?_,λp hp=>absurd hp (by simp),(λa' fs e _=>by cases e;rfl),λi O fs h=>?_⟩
 ·split at h
  ·cases h
  ·exact h
 ·obtain⟨o,e⟩:=hA b z.1;exact⟨o,by rw[if_neg z.2];exact e⟩
 ·unfold km;rw[length_cons,length_cons,length_map,hl]
 ·cases i with
  |zero=>cases h
  |succ i=>
   rw[getElem?_cons_succ]at h;obtain⟨d',e,h⟩:=mP h;cases e;obtain⟨v,hv,rv⟩:=E i d h;exact⟨v,by rw[getElem?_cons_succ];exact hv,rv.weak wk⟩
 ·cases i with
  |zero=>cases h;exact⟨xs,rfl,hx,rx.weak wk,by rw[if_pos rfl]⟩
  |succ i=>
   rw[getElem?_cons_succ]at h;obtain⟨_,e,_⟩:=mP h;cases e
 ·cases i with
  |succ i=>
   rw[getElem?_cons_succ]at h1;obtain⟨_,e,_⟩:=mP h1;rw[e]at m1;cases m1
  |zero=>
   cases j with
   |succ j=>
    rw[getElem?_cons_succ]at h2;obtain⟨_,e,_⟩:=mP h2;rw[e]at m2;cases m2
   |zero=>rfl
 ·cases i with
  |zero=>cases h
  |succ i=>
   rw[getElem?_cons_succ]at h;obtain⟨_,e,_⟩:=mP h;cases e
theorem GA.BO{Vi:gg}{σ:L2.St}(h:kE K H Vi ws as)(hw:∀a,aO Av Γ ad a->Vi a)(G:GA K ah Av pn aF H σ Γ ad):
  GA K ah Av pn aF H (oW σ ws) (setG Γ as) ad:=by
 induction h generalizing σ Γ with
 |nil=>exact G
 | @cons i v d vs ds h r ih=>exact ih (σ:=σ.set i (some v)) (Γ:=Γ.set i (some (.a7 d))) (λa z=>hw a (aO.fO a z)) (G.set i (h.weak hw))
variable {cA:List (Option Nat)}
theorem BJ{fe:HF}(ht:kD gt (some i::cA)):∀σ H Q,F3 K (m9 i cA gt fe fi) σ H Q->rO (some i::cA) (Km K fi) (iQ K gt) yA (tH K fe) σ H Q:=by
 rintro σ H Q ⟨ah,Av,pn,aF,Γ,ad,out,af,G,hf,q⟩;unfold m9 at hf;split at hf
 ·rename_i Aw hi;obtain⟨ak,e1,hf⟩:=bind_some hf;split at hf
  ·rename_i hz;obtain⟨⟨zt,As⟩,e2,hf⟩:=ba hf;obtain⟨h1,h2⟩:=Prod.mk.inj hf;subst h1 h2;clear hf;dsimp only at q;refine⟨aO Av Γ ad,bj Γ,ak,G.gf,G.j3,e1,λJ xs jZ H1 s1 rx ov=>?_⟩;refine⟨λk m ys H2=>m=ak.length-k/\k<=ak.length/\∃lA o1 o2 df,GA K ah Av pn aF H2 σ (Γ.set i (some (.own lA))) ad/\az K H2 (aO Av Γ ad) xs jZ/\az K H2 (aO Av Γ ad) ys o1/\o1.length<=k/\kA gt fe (km (dm cA (bj Γ))) (ak.drop k) lA=some (o2,df)/\zt=o1++o2/\As=df,
    ⟨_,rfl,zero_le _,Aw,[],zt,As,?_,rx,.nil,le_refl _,by rw[drop_zero];exact e2,rfl,rfl⟩,?_⟩
   ·have:Γ.set i (some (.own Aw))=Γ:=by
     apply List.ext_getElem?
     intro j;by_cases e:j=i
     ·subst e;rw[getElem?_set_self (ey hi),hi]
     ·rw[getElem?_set_ne (Ne.symm e)]
    rw[this];exact G.grow s1
   rintro k m ys H2 ⟨rfl,hk,lA,o1,o2,df,G2,rx,ro,hl,hc,rfl,rfl⟩;have GU:(Γ.set i (some (Slot.own lA)))[i]?=some (some (.own lA)):=getElem?_set_self (ey hi);refine⟨by have:=ro.length;omega,?_⟩;have QY:gG H2 (aO Av Γ ad):=λb z=>G2.gf b (aO.gw hi b z);cases gA:ak[k]? with
   |none=>
    have hle:ak.length<=k:=List.getElem?_eq_none_iff.mp gA;rw[drop_eq_nil_of_le hle]at hc;cases hc;refine .inl ⟨(ov k H2 _ rx).1 hle,λD hD=>q H2 D ys ad G2 hD ?_⟩;rw[append_nil];exact ro.weak (aO.set_own hi)
   |some di=>
    have eV:=ey gA;rw[drop_cons gA]at hc;obtain⟨as,a1,hc⟩:=bind_some (show(gt di).bind _=some (o2,As)from hc);obtain⟨⟨dv,ES⟩,a2,hc⟩:=bind_some hc;dsimp only at hc;split at hc
    ·rename_i Au h0;obtain⟨⟨o3,Qr⟩,a3,hc⟩:=ba hc;cases hc;obtain⟨go,yl⟩:=(ov k H2 _ rx).2 di gA;refine .inr ⟨go,λy H' hy=>?_⟩;obtain⟨sH,ry⟩:=yl y H' QY hy;refine⟨aO Av Γ ad,di,as,ry,a1,λws hw=>?_⟩;have cs:∀p∈as,(bZ (some i::cA) σ)[p.1]?=some none:=λp hp=>by
      unfold bZ;rw[getElem?_map,ht di as a1 p hp];rfl
     have G3:=G2.grow sH;obtain⟨zs,g1,g2,g3,g4⟩:=G3.own i lA GU;have GX:bZ (some i::cA) σ=some (.ref (ad i))::bZ cA σ:=by
      unfold bZ;rw[map_cons];show((σ[i]?).join)::_=_;rw[g1];rfl
     have E3:fg K H' (aO Av Γ ad) (bZ cA σ) (dm cA (bj Γ)):=by
      have:=G3.j3;rw[zM hi]at this;exact fg.aW (λj d h=>let ⟨v,e,r⟩:=this j d h;⟨v,e,r.weak (aO.gw hi)⟩) cA
     have QX:gG H' (aO Av Γ ad):=λb z=>G3.gf b (aO.gw hi b z);have Gb:=Af (K:=K) (a:=ad i) QX (.inr ⟨i,_,hi,rfl,rfl⟩) g2 (g3.weak (aO.gw hi)) E3 (by unfold bZ dm;rw[length_map,length_map]);have NP:∀b,aO (λb=>aO Av Γ ad b/\b≠ad i) (some (.own lA)::km (dm cA (bj Γ))) (λ_=>ad i) b->aO Av Γ ad b:=by
      rintro b (z|⟨_,_,_,_,rfl⟩)
      ·exact z.1
      ·exact .inr ⟨i,_,hi,rfl,rfl⟩
     rw[GX];rw[GX]at cs;refine⟨eX.ib hw cs (eX.refl _),?_⟩;simp only[yA,if_true];refine⟨_,_,some (ad i),[],_,_,dv,ES,GA.BO hw NP Gb,a2,λv H4 HV G4 r4=>?_⟩;obtain⟨us,u1,u2,u3,u4⟩:=G4.own 0 Au h0;have ea:HV 0=ad i:=G4.pin _ _ rfl h0;have EX:∀b,aO Av Γ ad b->aO (λb=>aO Av Γ ad b/\b≠ad i) ES HV b:=λb z=>by
      by_cases eb:b=ad i
      ·exact .inr ⟨0,_,h0,rfl,ea.trans eb.symm⟩
      ·exact .inl ⟨z,eb⟩
     have kk:∀b o,H' b=some o->b≠ad i->H4 b=some o:=λb o h ne=>G4.same b o (by rw[if_neg ne];exact h);have kp:lN H' (aO Av Γ ad) H4 (aO Av Γ ad):=λb o h n=>⟨kk b o h λz=>n (.inr ⟨i,_,hi,rfl,z.symm⟩),n⟩;have G5:=G3.lend (es:=Au) GU kk (by rw[<- ea];exact u2) (u3.weak λb z=>EX b (aO.set_own (es:=lA) hi b z));rw[List.set_set]at G5;refine⟨ak.length-(k+1),by omega,rfl,by omega,Au,o1++[dv],o3,Qr,G5,(rx.same sH).mono kp,((ro.same sH).mono kp).append (.cons (r4.weak EX) .nil),?_,a3,?_,rfl⟩
     ·rw[length_append,length_singleton];omega
     ·rw[append_assoc];rfl
    ·cases hc
  ·cases hf
 ·cases hf
theorem pM{tn fv:List Str}{js:List Nat}(pW:closureFor scope X.env=pure (fv.map λx=>(x,(X.env.cells.lookup x).getD 0)))(hf:∀y∈scope.names,y.2=.free->y.1∈fv)(hc:∀y∈scope.names,y.2≠.cell)(hk:scope.kind=.function)(hn:∀y∈scope.names,y.2=.local->scope.names.lookup y.1=some .local)(nd:(tn++fv).Nodup)(hl:fv.length=js.length)(hs:∀x∈fv,∃c,X.env.cells.lookup x=some c)(hj:∀p∈fv.zip js,X.N[p.2]?=some p.1/\n8 X.env.scope p.1/\((relabel scope X.env).names.lookup p.1=some .cell\/(relabel scope X.env).names.lookup p.1=some .free)/\X.env.scope.names.lookup p.1≠some .local):
  qg X scope (fv.map λx=>(x,(X.env.cells.lookup x).getD 0)) (fv++tn) (js.map some++(tn.map λ_=>none)):=by
 have B:=fw (X:=X) (tn:=tn) (js:=js) pW hf hc hk hn nd hl hs hj;refine⟨B.JV,B.cells,B.kind,B.names,?_,by rw[length_append,length_append,length_map,length_map,hl],B.sub,B.has,λi x j e1 e2=>?_⟩
 ·exact(List.perm_append_comm (l₁:=tn) (l₂:=fv)).nodup_iff.mp nd
 ·by_cases hi:i<fv.length
  ·rw[getElem?_append_left hi]at e1;rw[getElem?_append_left (by rw[length_map,<- hl];exact hi),getElem?_map]at e2;cases ej:js[i]? with
   |none=>rw[ej]at e2;cases e2
   |some j'=>
    rw[ej]at e2;cases e2;refine hj (x,j) (mem_of_getElem? (i:=i) ?_);rw[List.getElem?_zip_eq_some];exact⟨e1,ej⟩
  ·rw[getElem?_append_right (by rw[length_map,<- hl];omega),getElem?_map]at e2;cases ej:tn[i-(js.map some).length]? with
   |none=>rw[ej]at e2;cases e2
   |some j'=>rw[ej]at e2;cases e2
set_option maxHeartbeats 4000000
open PySem PySem.Spec PyProof.Rows L2
open PySem.W (Dat kqdOk)
def lT:Bool->Heap->Addr->Array Value->Prop
 |true,h,a,ak=>h.IsList a ak
 |false,h,a,ak=>h.IsTuple a ak
def ji:Bool->Heap->Addr->Addr->Nat->Prop
 |true,h,it,a,i=>h.IsListIter it a i
 |false,h,it,a,i=>h.IsTupleIter it a i
variable {k:Bool} {h h':Heap} {a:Addr} {ak:Array Value}
theorem lT.on(x:lT k h a ak)(e:∀o,h.get? a=some o->h'.get? a=some o):lT k h' a ak:=by
 cases k<;>exact let ⟨o,ho,r⟩:=x;⟨o,e o ho,r⟩
variable {it:Addr}
theorem ji.on(x:ji k h it a i)(e:∀o,h.get? it=some o->h'.get? it=some o):ji k h' it a i:=by
 cases k<;>exact let ⟨o,ho,r⟩:=x;⟨o,e o ho,r⟩
theorem ji.obj(x:ji k h it a i):∃o,h.get? it=some o/\∀v,o.data≠.cell v:=by
 cases k<;>exact let ⟨o,ho,_,hd⟩:=x;⟨o,ho,λv z=>by rw[hd]at z;cases z⟩
theorem lT.obj(x:lT k h a ak):∃o,h.get? a=some o:=by
 cases k<;>exact let ⟨o,ho,_⟩:=x;⟨o,ho⟩
variable {E Q:Value->Shared->Prop} {prog:Program} {A:Around}
variable {s:Shared} in
theorem Eo{ii la:Addr}{x:Value}(hit:ji k s.heap ii la i)(hq:lT k s.heap la ak)(hx:ak[i]?=some x)(hQ:∀h',ji k h' ii la (i+1)->SameBut ii s.heap h'->Q x {s with heap:=h'}):wpAny (model prog w) A (Builtin.SmallTypes.nextOf (.ref ii)) Q E s:=by
 cases k with
 |true=>exact wpAny_nextOf_list_item hit hq hx hQ
 |false=>
  have tL:s.heap.IsTupleIter ii la i:=hit;obtain⟨oi,pi,ci,di⟩:=id tL;obtain⟨oa,pa,_,na,da⟩:=(show s.heap.IsTuple la ak from hq);unfold Builtin.SmallTypes.nextOf;refine wpAny_bind (wpAny_callSpecial?_slot (name:=Str.ofString "__next__") tL.typeIs F.slot_tuple_iterator_next (wpAny_call_entry F.slot_tuple_iterator_next tL.typeIs F.entry_tuple_iterator_next ?_ (F.args_tuple_iterator_next_1 _)));show wpAny _ _ (field (.ref ii) 0 >>= _) _ _ s;refine wpAny_bind (wpAny_field pi di (x:=.ref la) rfl ?_);show wpAny _ _ (if(Value.ref la==Value.none)=true then _ else _) _ _ s;rw[if_neg (show ¬((Value.ref la==Value.none)=true)from Bool.false_ne_true)];show wpAny _ _ (field (.ref ii) 1 >>= _) _ _ s;refine wpAny_bind (wpAny_field pi di (x:=.int i 0) rfl ?_);show wpAny _ _ (seqItems? (.ref la) >>= _) _ _ s;refine wpAny_bind (wpAny_seqItems pa da ?_);simp only[hx,toNat_natCast];exact wpAny_bind (wpAny_setField pi di (by simp) (wpAny_pure ⟨x,rfl,wpAny_pure (hQ _ ⟨_,Heap.get?_update_self _ pi (Obj.isFreed_of_fields (Obj.data_mapFields di _)),(Obj.cls_mapFields ..).trans ci,by rw[Obj.data_mapFields di];simp[rawInt]⟩ (SameBut.update ..))⟩))
variable {s:Shared} in
theorem xR{ii la:Addr}(hh:A.handled=none)(hit:ji k s.heap ii la i)(hq:lT k s.heap la ak)(hx:ak[i]?=none)(hE:∀h' e,Heap.ExtBut ii s.heap h'->(∃o,h'.get? e=some o/\o.cls=.type "StopIteration")->E (.ref e) {s with heap:=h'}):wpAny (model prog w) A (Builtin.SmallTypes.nextOf (.ref ii)) Q E s:=by
 cases k with
 |true=>exact wpAny_nextOf_list_end hh hit hq hx hE
 |false=>
  have tL:s.heap.IsTupleIter ii la i:=hit;obtain⟨oi,pi,ci,di⟩:=id tL;obtain⟨oa,pa,_,na,da⟩:=(show s.heap.IsTuple la ak from hq);unfold Builtin.SmallTypes.nextOf;refine wpAny_bind (wpAny_callSpecial?_slot (name:=Str.ofString "__next__") tL.typeIs F.slot_tuple_iterator_next (wpAny_call_entry F.slot_tuple_iterator_next tL.typeIs F.entry_tuple_iterator_next ?_ (F.args_tuple_iterator_next_1 _)));show wpAny _ _ (field (.ref ii) 0 >>= _) _ _ s;refine wpAny_bind (wpAny_field pi di (x:=.ref la) rfl ?_);show wpAny _ _ (if(Value.ref la==Value.none)=true then _ else _) _ _ s;rw[if_neg (show ¬((Value.ref la==Value.none)=true)from Bool.false_ne_true)];show wpAny _ _ (field (.ref ii) 1 >>= _) _ _ s;refine wpAny_bind (wpAny_field pi di (x:=.int i 0) rfl ?_);show wpAny _ _ (seqItems? (.ref la) >>= _) _ _ s;refine wpAny_bind (wpAny_seqItems pa da ?_);simp only[hx,toNat_natCast];refine wpAny_bind (wpAny_rule (wpAny_bind (wpAny_setField pi di (by simp) (?_:wpAny _ _ (newExc (.type "StopIteration") [] >>= _) _ _ _))));refine wpAny_bind (by
   simp only[newExc,newTuple];exact wpAny_bind (wpAny_newObj_type (wpAny_bind (m:=firstArgMember _ _) (wpAny_of_eq (a:=Value.none) (by first|rfl|(simp only[firstArgMember];rfl)) (wpAny_newObj_type (by
    simp only[raiseNew];exact wpAny_bind (wpAny_handled (by
     (first|rw[show A.in1.handled=none from hh]|rw[hh])
     exact wpAny_bind (wpAny_pure (wpAny_throw (hE _ _ (((SameBut.update ..).extBut.push _).push _) ⟨_,get?_push_size _ rfl,rfl⟩)))))) (by size_fits)))) (by size_fits)))
abbrev LK (h:Heap) (z TI TO i1 i2:Addr) (f0:Value) (x y:Value):Prop:=IsZip h z TI TO f0/\IsPair h TI (.ref i1) (.ref i2)/\IsPair h TO x y
variable {k1 k2:Bool} {z i1 i2 l1 l2:Addr} {n1 n2:Nat} {xs ys:Array Value}
variable {s:Shared} in
theorem EV{TI TO:Addr}{x y a b:Value}(D:ZipApart z TI TO i1 i2 l1 l2)(Z:LK s.heap z TI TO i1 i2 .none a b)(w1:ji k1 s.heap i1 l1 n1)(w2:ji k2 s.heap i2 l2 n2)(q1:lT k1 s.heap l1 xs)(q2:lT k2 s.heap l2 ys)(hx:xs[n1]?=some x)(hy:ys[n2]?=some y)(hQ:∀h',IsZip h' z TI TO (rawInt s.heap.objs.size)->IsPair h' TO x y->ji k1 h' i1 l1 (n1+1)->ji k2 h' i2 l2 (n2+1)->IsPair h' s.heap.objs.size x y->
   (∀c o,c≠z->c≠TO->c≠i1->c≠i2->s.heap.get? c=some o->h'.get? c=some o)->Q (.ref s.heap.objs.size) {s with heap:=h'}):
  wpAny (model prog w) A (Builtin.«zip.__next__» ⟨[.ref z],[]⟩) (λfin s'=>∃v,fin=.done (.ret v)/\Q v s') E s:=by
 obtain⟨Zz,ZI,ZO⟩:=Z;refine(?_:wpAny _ _ (field (.ref z) 2 >>= _) _ _ _);refine wpAny_bind (wpAny_field Zz rfl (x:=.bool false) rfl (?_:wpAny _ _ (field (.ref z) 3 >>= _) _ _ _));refine wpAny_bind (wpAny_field Zz rfl (x:=.ref TI) rfl (wpAny_bind (wpAny_seqItems ZI rfl ?_)));refine(?_:wpAny _ _ (Builtin.SmallTypes.ownedTupleIsFree (.ref z) >>= _) _ _ _);refine wpAny_bind (by
  unfold Builtin.SmallTypes.ownedTupleIsFree;exact wpAny_bind (wpAny_field Zz rfl (x:=.none) rfl (wpAny_pure (by
   simp only[if_true];refine wpAny_bind (wpAny_rule (wpAny_bind (wpAny_field Zz rfl (x:=.ref TO) rfl (wpAny_bind (wpAny_setField_rec Zz (by simp) λg1 z1 m1=>?_)))));have Ke:IsZip g1 z TI TO .ellipsis:=z1;refine wpAny_bind ?_;simp only[List.forIn_cons,List.forIn_nil,List.zipIdx_cons,List.zipIdx_nil];refine wpAny_bind (wpAny_bind (wpAny_onRaise (?_:wpAny _ _ (Builtin.SmallTypes.nextOf (.ref i1) >>= _) _ _ _)));refine wpAny_bind (Eo (w1.on λo e=>m1.extBut _ _ D.i1z e) (q1.on λo e=>m1.extBut _ _ D.l1z e) hx λg2 v2 m2=>wpAny_pure ?_);have o2:IsPair g2 TO a b:=m2.extBut _ _ D.TOi1 (m1.extBut _ _ D.TOz ZO);refine wpAny_bind (wpAny_seqItems o2 rfl (wpAny_bind (wpAny_updateSeq_pair o2 λg3 p3 m3=>wpAny_bind (wpAny_letGo (wpAny_pure ?_)))));have o3:IsPair g3 TO x b:=p3;refine wpAny_bind (wpAny_bind (wpAny_onRaise (?_:wpAny _ _ (Builtin.SmallTypes.nextOf (.ref i2) >>= _) _ _ _)));refine wpAny_bind (Eo (w2.on λo e=>m3.extBut _ _ D.TOi2.symm (m2.extBut _ _ D.i12.symm (m1.extBut _ _ D.i2z e))) (q2.on λo e=>m3.extBut _ _ D.l2TO (m2.extBut _ _ D.l2i1 (m1.extBut _ _ D.l2z e))) hy λg4 v4 m4=>wpAny_pure ?_);have o4:IsPair g4 TO x b:=m4.extBut _ _ D.TOi2 o3;refine wpAny_bind (wpAny_seqItems o4 rfl (wpAny_bind (wpAny_updateSeq_pair o4 λg5 p5 m5=>wpAny_bind (wpAny_letGo (wpAny_pure (wpAny_pure ?_))))));have o5:IsPair g5 TO x y:=p5;refine wpAny_bind (wpAny_seqItems o5 rfl (wpAny_bind (wpAny_newTuple ?_)));have sz:g5.objs.size=s.heap.objs.size:=by rw[m5.1,m4.1,m3.1,m2.1,m1.1]
   have z5:IsZip g5 z TI TO .ellipsis:=m5.extBut _ _ D.TOz.symm (m4.extBut _ _ D.i2z.symm (m3.extBut _ _ D.TOz.symm (m2.extBut _ _ D.i1z.symm Ke)));have k5:∀c o,c≠z->c≠TO->c≠i1->c≠i2->s.heap.get? c=some o->g5.get? c=some o:=λc o a1 a2 a3 a4 e=>m5.extBut _ _ a2 (m4.extBut _ _ a4 (m3.extBut _ _ a2 (m2.extBut _ _ a3 (m1.extBut _ _ a1 e))));have v5:ji k1 g5 i1 l1 (n1+1):=v2.on λo e=>m5.extBut _ _ D.TOi1.symm (m4.extBut _ _ D.i12 (m3.extBut _ _ D.TOi1.symm e));have v6:ji k2 g5 i2 l2 (n2+1):=v4.on λo e=>m5.extBut _ _ D.TOi2.symm e;have zl:z<g5.objs.size:=lt_size z5;refine(?_:wpAny _ _ (Builtin.SmallTypes.ownedTupleHandOut (.ref z) (.ref g5.objs.size) >>= _) _ _ _);refine wpAny_bind (by
    unfold Builtin.SmallTypes.ownedTupleHandOut;have z6:IsZip (g5.push {cls:=.type "tuple",data:=.seq #[x,y]}) z TI TO .ellipsis:=get?_push_of_some _ z5;refine wpAny_bind (wpAny_setField_rec z6 (by simp) λg7 z7 m7=>?_);have Wq:IsZip g7 z TI TO (rawInt g5.objs.size):=z7;refine wpAny_setField_rec Wq (by simp) λg8 z8 m8=>?_;have SS:IsZip g8 z TI TO (rawInt g5.objs.size):=z8;have up:∀c o,c≠z->g5.get? c=some o->g8.get? c=some o:=λc o c1 e=>m8.extBut _ _ c1 (m7.extBut _ _ c1 (get?_push_of_some _ e));have t8:IsPair g8 g5.objs.size x y:=m8.extBut _ _ (Nat.ne_of_gt zl) (m7.extBut _ _ (Nat.ne_of_gt zl) (get?_push_size _ rfl));rw[sz]at SS t8;refine wpAny_pure ⟨_,rfl,(?_:Q (.ref g5.objs.size) _)⟩;rw[sz];exact hQ g8 SS (up _ _ D.TOz o5) (v5.on λo e=>up _ o D.i1z e) (v6.on λo e=>up _ o D.i2z e) t8 λc o c1 c2 c3 c4 e=>up c o c1 (k5 c o c1 c2 c3 c4 e)))))
  )
variable {s:Shared} in
theorem EU{TI TO:Addr}{a b:Value}{Q:Fin->Shared->Prop}(hh:A.handled=none)(D:ZipApart z TI TO i1 i2 l1 l2)(Z:LK s.heap z TI TO i1 i2 .none a b)(w1:ji k1 s.heap i1 l1 n1)(w2:ji k2 s.heap i2 l2 n2)(q1:lT k1 s.heap l1 xs)(q2:lT k2 s.heap l2 ys)(Ju:xs[n1]?=none\/ys[n2]?=none)(hE:∀h' e,(∀c o,c≠z->c≠TO->c≠i1->c≠i2->s.heap.get? c=some o->h'.get? c=some o)->(∃o,h'.get? e=some o/\o.cls=.type "StopIteration")->E (.ref e) {s with heap:=h'}):
  wpAny (model prog w) A (Builtin.«zip.__next__» ⟨[.ref z],[]⟩) Q E s:=by
 obtain⟨Zz,ZI,ZO⟩:=Z;refine(?_:wpAny _ _ (field (.ref z) 2 >>= _) _ _ _);refine wpAny_bind (wpAny_field Zz rfl (x:=.bool false) rfl (?_:wpAny _ _ (field (.ref z) 3 >>= _) _ _ _));refine wpAny_bind (wpAny_field Zz rfl (x:=.ref TI) rfl (wpAny_bind (wpAny_seqItems ZI rfl ?_)));refine(?_:wpAny _ _ (Builtin.SmallTypes.ownedTupleIsFree (.ref z) >>= _) _ _ _);refine wpAny_bind (by
  unfold Builtin.SmallTypes.ownedTupleIsFree;exact wpAny_bind (wpAny_field Zz rfl (x:=.none) rfl (wpAny_pure (by
   simp only[if_true];refine wpAny_bind (wpAny_rule (wpAny_bind (wpAny_field Zz rfl (x:=.ref TO) rfl (wpAny_bind (wpAny_setField_rec Zz (by simp) λg1 z1 m1=>?_)))));have Ke:IsZip g1 z TI TO .ellipsis:=z1;refine wpAny_bind ?_;simp only[List.forIn_cons,List.forIn_nil,List.zipIdx_cons,List.zipIdx_nil];refine wpAny_bind (wpAny_bind (wpAny_onRaise (?_:wpAny _ _ (Builtin.SmallTypes.nextOf (.ref i1) >>= _) _ _ _)));cases hx:xs[n1]? with
   |none=>
    refine wpAny_bind (xR hh (w1.on λo e=>m1.extBut _ _ D.i1z e) (q1.on λo e=>m1.extBut _ _ D.l1z e) hx λg2 e m2 he=>?_);obtain⟨oe,pe,ce⟩:=he;have z2:IsZip g2 z TI TO .ellipsis:=m2 _ _ D.i1z.symm Ke;have ez:e≠z:=λx=>by subst x;rw[z2]at pe;cases pe;simp at ce
    exact wpAny_setField_rec z2 (by simp) λg3 _ m3=>hE g3 e (λc o c1 _ c3 _ x=>m3.extBut _ _ c1 (m2 _ _ c3 (m1.extBut _ _ c1 x))) ⟨oe,m3.extBut _ _ ez pe,ce⟩
   |some x=>
    have hy:ys[n2]?=none:=Ju.elim (λh=>by rw[hx]at h;cases h) id;refine wpAny_bind (Eo (w1.on λo e=>m1.extBut _ _ D.i1z e) (q1.on λo e=>m1.extBut _ _ D.l1z e) hx λg2 v2 m2=>wpAny_pure ?_);have o2:IsPair g2 TO a b:=m2.extBut _ _ D.TOi1 (m1.extBut _ _ D.TOz ZO);refine wpAny_bind (wpAny_seqItems o2 rfl (wpAny_bind (wpAny_updateSeq_pair o2 λg3 p3 m3=>wpAny_bind (wpAny_letGo (wpAny_pure ?_)))));refine wpAny_bind (wpAny_bind (wpAny_onRaise (?_:wpAny _ _ (Builtin.SmallTypes.nextOf (.ref i2) >>= _) _ _ _)));refine wpAny_bind (xR hh (w2.on λo e=>m3.extBut _ _ D.TOi2.symm (m2.extBut _ _ D.i12.symm (m1.extBut _ _ D.i2z e))) (q2.on λo e=>m3.extBut _ _ D.l2TO (m2.extBut _ _ D.l2i1 (m1.extBut _ _ D.l2z e))) hy λg4 e m4 he=>?_);obtain⟨oe,pe,ce⟩:=he;have z4:IsZip g4 z TI TO .ellipsis:=m4 _ _ D.i2z.symm (m3.extBut _ _ D.TOz.symm (m2.extBut _ _ D.i1z.symm Ke));have ez:e≠z:=λx=>by subst x;rw[z4]at pe;cases pe;simp at ce
    exact wpAny_setField_rec z4 (by simp) λg5 _ m5=>hE g5 e (λc o c1 c2 c3 c4 x=>m5.extBut _ _ c1 (m4 _ _ c4 (m3.extBut _ _ c2 (m2.extBut _ _ c3 (m1.extBut _ _ c1 x))))) ⟨oe,m5.extBut _ _ ez pe,ce⟩))))
def kY (k:Bool) (l:Addr):Obj:={cls:=.type (if k then "list_iterator" else "tuple_iterator"),data:=.fields #[.ref l,.int 0 0]}
def ue (k1 k2:Bool) (h:Heap) (l1 l2:Addr):Heap:=(h.push (kY k1 l1)).push (kY k2 l2)
def Bw (k1 k2:Bool) (h:Heap) (l1 l2:Addr):Heap:=((ue k1 k2 h l1 l2).push {cls:=.type "tuple",data:=.seq #[.ref h.objs.size,.ref (h.push (kY k1 l1)).objs.size]}).push {cls:=.type "tuple",data:=.seq #[.none,.none]}
def sG (k1 k2:Bool) (h:Heap) (l1 l2:Addr):Heap:=(Bw k1 k2 h l1 l2).push {cls:=.type "zip",data:=.fields #[.none,.bool false,.bool false,.ref (ue k1 k2 h l1 l2).objs.size,.ref ((ue k1 k2 h l1 l2).push {cls:=.type "tuple",data:=.seq #[.ref h.objs.size,.ref (h.push (kY k1 l1)).objs.size]}).objs.size]}
variable {s:Shared} in
theorem Ir(k1 k2:Bool)(l1 l2:Addr)(xs ys:Array Value):
  Meets (Builtin.«zip.__new__» ⟨[.type "zip",.ref l1,.ref l2],[]⟩) (λ_ R s=>lT k1 s.heap l1 xs/\lT k2 s.heap l2 ys/\R (.ok (.ret (.ref (Bw k1 k2 s.heap l1 l2).objs.size))) {s with heap:=sG k1 k2 s.heap l1 l2}):=
 .of_wp λprog w A R s h=>by
  obtain⟨hp,g,d,tk,os⟩:=s;obtain⟨c1,c2,h⟩:=h;have Jn:=sub_zip;cases k1<;>cases k2
  ·have e1:IsTuple (Shared.heap ⟨hp,g,d,tk,os⟩) l1 xs:=c1;have e2:IsTuple (Shared.heap ⟨hp.push {cls:=.type "tuple_iterator",data:=.fields #[.ref l1,.int 0 0]},g,d,tk,os⟩) l2 ys:=IsTuple.push c2 _;wp_walk using wpAny_pyIter_tuple e1,wpAny_pyIter_tuple e2
   exact⟨_,rfl,h⟩
  ·have e1:IsTuple (Shared.heap ⟨hp,g,d,tk,os⟩) l1 xs:=c1;have e2:IsList (Shared.heap ⟨hp.push {cls:=.type "tuple_iterator",data:=.fields #[.ref l1,.int 0 0]},g,d,tk,os⟩) l2 ys:=IsList.push c2 _;wp_walk using wpAny_pyIter_tuple e1,wpAny_pyIter_list e2
   exact⟨_,rfl,h⟩
  ·have e1:IsList (Shared.heap ⟨hp,g,d,tk,os⟩) l1 xs:=c1;have e2:IsTuple (Shared.heap ⟨hp.push {cls:=.type "list_iterator",data:=.fields #[.ref l1,.int 0 0]},g,d,tk,os⟩) l2 ys:=IsTuple.push c2 _;wp_walk using wpAny_pyIter_list e1,wpAny_pyIter_tuple e2
   exact⟨_,rfl,h⟩
  ·have e1:IsList (Shared.heap ⟨hp,g,d,tk,os⟩) l1 xs:=c1;have e2:IsList (Shared.heap ⟨hp.push {cls:=.type "list_iterator",data:=.fields #[.ref l1,.int 0 0]},g,d,tk,os⟩) l2 ys:=IsList.push c2 _;wp_walk using wpAny_pyIter_list e1,wpAny_pyIter_list e2
   exact⟨_,rfl,h⟩
variable {s:Shared} in
theorem HP(c1:lT k1 s.heap l1 xs)(c2:lT k2 s.heap l2 ys)(h:∀h' z TI TO i1 i2,ZipApart z TI TO i1 i2 l1 l2->LK h' z TI TO i1 i2 .none .none .none->ji k1 h' i1 l1 0->ji k2 h' i2 l2 0->(∀c o,s.heap.get? c=some o->h'.get? c=some o)->(∀b∈[z,TI,TO,i1,i2],s.heap.objs.size<=b)->Q (.ref z) {s with heap:=h'}):
  wpAny (model prog w) A (call (.type "zip") [.ref l1,.ref l2]) Q E s:=by
 obtain⟨o1,p1⟩:=c1.obj;obtain⟨o2,p2⟩:=c2.obj;refine callType_new F.called_zip (by decide) (F.typeCall_zip_2 _ _) (F.newCall_zip_2 _ _) (λobj=>F.args_object_init_3 obj _ _) F.entry_zip_new (Ir k1 k2 l1 l2 xs ys) ⟨c1,c2,?_⟩;generalize hn:s.heap.objs.size=n;have WS:l1<n:=hn▸lt_size p1;have P1:l2<n:=hn▸lt_size p2;have y1:(s.heap.push (kY k1 l1)).objs.size=n+1:=by rw[size_push,hn]
 have y2:(ue k1 k2 s.heap l1 l2).objs.size=n+2:=by unfold ue;rw[size_push,y1]
 have y3:((ue k1 k2 s.heap l1 l2).push {cls:=.type "tuple",data:=.seq #[.ref s.heap.objs.size,.ref (s.heap.push (kY k1 l1)).objs.size]}).objs.size=n+3:=by rw[size_push,y2]
 have y4:(Bw k1 k2 s.heap l1 l2).objs.size=n+4:=by unfold Bw;rw[size_push,y3]
 have NQ:∀c o,(Bw k1 k2 s.heap l1 l2).get? c=some o->(sG k1 k2 s.heap l1 l2).get? c=some o:=λc o e=>get?_push_of_some _ e;have NR:∀c o,(ue k1 k2 s.heap l1 l2).get? c=some o->(sG k1 k2 s.heap l1 l2).get? c=some o:=λc o e=>NQ c o (get?_push_of_some _ (get?_push_of_some _ e));have f5:(sG k1 k2 s.heap l1 l2).get? (Bw k1 k2 s.heap l1 l2).objs.size=some _:=get?_push_size _ rfl;have f4:(sG k1 k2 s.heap l1 l2).get? ((ue k1 k2 s.heap l1 l2).push {cls:=.type "tuple",data:=.seq #[.ref s.heap.objs.size,.ref (s.heap.push (kY k1 l1)).objs.size]}).objs.size=some _:=NQ _ _ (get?_push_size _ rfl);have f3:(sG k1 k2 s.heap l1 l2).get? (ue k1 k2 s.heap l1 l2).objs.size=some _:=NQ _ _ (get?_push_of_some _ (get?_push_size _ rfl));have f2:(sG k1 k2 s.heap l1 l2).get? (s.heap.push (kY k1 l1)).objs.size=some (kY k2 l2):=NR _ _ (get?_push_size _ (by cases k2<;>rfl));have f1:(sG k1 k2 s.heap l1 l2).get? s.heap.objs.size=some (kY k1 l1):=NR _ _ (get?_push_of_some _ (get?_push_size _ (by cases k1<;>rfl)));rw[y2,y3,y4]at f5;rw[y3]at f4;rw[y2,y1,hn]at f3;rw[y1]at f2;rw[hn]at f1;have r1:ji k1 (sG k1 k2 s.heap l1 l2) n l1 0:=by cases k1<;>exact⟨_,f1,rfl,rfl⟩
 have r2:ji k2 (sG k1 k2 s.heap l1 l2) (n+1) l2 0:=by cases k2<;>exact⟨_,f2,rfl,rfl⟩
 refine(?_:_/\_);rw[y4];refine⟨⟨_,f5,rfl⟩,h _ (n+4) (n+2) (n+3) n (n+1) (zipApart_new WS P1) ⟨f5,f3,f4⟩ r1 r2 (λc o e=>NR _ _ (get?_push_of_some _ (get?_push_of_some _ e))) λb hb=>?_⟩;rw[hn];simp only[mem_cons,not_mem_nil,or_false]at hb;rcases hb with e|e|e|e|e<;>(rw[e];first|exact le_refl _|exact le_add_right _ _)
open PySem PySem.Spec PyProof.Rows L2
open PySem.W (Dat kqdOk)
variable {pins:List (Addr×Obj)}
variable {s:Shared} in
theorem rN{t':Nat}{ch:List Addr}(I:Inv X pins σ H s)(k:∀b o,b∉ch->s.heap.get? b=some o->h'.get? b=some o)(hf:∀b∈ch,pQ X pins H b):Inv X pins σ H {s with heap:=h',toks:=t'}:=by
 have out:∀b u,H b=some u->b∉ch:=λb u e z=>by rw[(hf b z).1]at e;cases e
 refine I.step (g':=s.gens) (d':=s.drawn) (ch:=ch) (λb hb=>?_) (λb o _ _ hc e _=>k b o hc e) (λb o _ _ hc e _=>⟨o.slots,k b o hc e⟩) (λ_ _ _ _ n=>n)
  (λb o hc e=>⟨o,k b o hc e⟩) (λ_ _ e=>e) (λ_ _ _ e=>e) (λb ps e=>⟨#[],by rw[e];simp⟩) (λm hm=>?_) (λb u e=>?_) I.bare
 ·obtain⟨_,f1,_,f3,f4,f5⟩:=hf b hb;exact⟨f3,f1,f4,f5⟩
 ·obtain⟨o,es,ep,ho,r⟩:=hm;exact⟨o,es,ep,k _ o (λz=>(hf _ z).2.1 rfl) ho,r⟩
 ·refine(I.bx b u e).nV (λc v hc q=>k c v (hc.elim (λz=>by rw[z];exact out b u e) λz=>out c _ z) q) (λ_ q=>q) λ_ _ q=>q
def qd (K:Fg):Bool->Hp->Addr->List V->Prop
 |true,H,a,xs=>fK K H a xs
 |false,H,a,xs=>iN K H a xs
variable {xs:List V}
theorem vK{σ:L2.St}{s:Shared}(I:Inv X pins σ H s)(h:qd X.K k H a xs):∃ak:List Value,Vals xs ak/\lT k s.heap a ak.toArray:=by
 cases k with
 |true=>obtain⟨ak,r,p,_⟩:=I.list h;exact⟨ak,r,p.isList⟩
 |false=>obtain⟨ak,r,p,_⟩:=I.tuple h;exact⟨ak,r,show s.heap.IsTuple a ak.toArray from p⟩
theorem yG{σ:L2.St}{s:Shared}{ys:List V}(I:Inv X pins σ H s)(h:qd X.K k H a xs)(h':qd X.K k H a ys):xs=ys:=by
 cases k with
 |true=>exact I.tI h h'
 |false=>exact I.wX h h'
def US (K:Fg) (k1 k2:Bool) (a1 a2:Addr):It:=
 ⟨λi H=>∃xs ys x y,qd K k1 H a1 xs/\qd K k2 H a2 ys/\xs[i]?=some x/\ys[i]?=some y,
  λi H v H'=>∃T x y,v=.ref T/\H T=none/\H'=upd H T (.tup [x,y])/\∀xs ys,qd K k1 H a1 xs->qd K k2 H a2 ys->xs[i]?=some x/\ys[i]?=some y,
  λi H=>∃xs ys,qd K k1 H a1 xs/\qd K k2 H a2 ys/\(xs.length<=i\/ys.length<=i)⟩
variable {kt:Nat} {a1 a2:Addr}
theorem Iv{dY:List Expr}{pt:Pos}{TI TO:Addr}(D:ZipApart z TI TO i1 i2 a1 a2):
  Turn P w K (.Tuple dY kt pt) (US K k1 k2 a1 a2) [z,TI,TO,i1,i2] z (λi h=>(∃a b,LK h z TI TO i1 i2 .none a b)/\ji k1 h i1 a1 i/\ji k2 h i2 a2 i) where
 mem:=mem_cons_self
 obj:=λi h st b hb=>by
  obtain⟨⟨u,v,Z1,Z2,Z3⟩,w1,w2⟩:=st;simp only[mem_cons,not_mem_nil,or_false]at hb;rcases hb with e|e|e|e|e
  ·rw[e];exact⟨_,Z1,λv z=>nomatch z⟩
  ·rw[e];exact⟨_,Z2,λv z=>nomatch z⟩
  ·rw[e];exact⟨_,Z3,λv z=>nomatch z⟩
  ·rw[e];exact w1.obj
  ·rw[e];exact w2.obj
 keep:=λi h h' st k=>by
  obtain⟨⟨u,v,Z1,Z2,Z3⟩,w1,w2⟩:=st;exact⟨⟨u,v,k z (by simp) _ Z1,k TI (by simp) _ Z2,k TO (by simp) _ Z3⟩,w1.on (k i1 (by simp)),w2.on (k i2 (by simp))⟩
 item:=by
  intro X hP hw hK hc i pins s σ H E I hf st hg;subst hP hw hK;obtain⟨⟨u,v,Z⟩,w1,w2⟩:=st;obtain⟨xs,ys,x,y,c1,c2,hx,hy⟩:=hg;obtain⟨E8,r1,p1⟩:=vK I c1;obtain⟨jl,r2,p2⟩:=vK I c2;obtain⟨ux,Pz,rx⟩:=r1.get hx;obtain⟨uy,X6,ry⟩:=r2.get hy;have hT:s.TypeIs (.ref z) "zip":=⟨_,Z.1,rfl⟩;have lt:∀b∈[z,TI,TO,i1,i2],b<s.heap.objs.size:=λb hb=>by
   simp only[mem_cons,not_mem_nil,or_false]at hb;rcases hb with e|e|e|e|e
   ·rw[e];exact lt_size Z.1
   ·rw[e];exact lt_size Z.2.1
   ·rw[e];exact lt_size Z.2.2
   ·rw[e];obtain⟨o,q,_⟩:=w1.obj;exact lt_size q
   ·rw[e];obtain⟨o,q,_⟩:=w2.obj;exact lt_size q
  unfold pyNext;refine wpAny_bind (wpAny_attempt (wpAny_callSpecial?_slot (name:=Str.ofString "__next__") hT F.slot_zip_next (wpAny_call_entry F.slot_zip_next hT F.entry_zip_next (EV D Z w1 w2 p1 p2 (x:=ux) (y:=uy) (by simpa using Pz) (by simpa using X6) λg b1 b2 b3 b4 b5 b6=>wpAny_pure ?_) (F.args_zip_next_1 _))));refine⟨_,rfl,wpAny_letOwnedTupleGo_zip (s:={s with heap:=g}) b1 λg' b7 b8=>?_⟩;have In:Inv X pins σ (upd H s.heap.objs.size (.tup [x,y])) {s with heap:=s.heap.push {cls:=.type "tuple",data:=.seq #[ux,uy]},toks:=s.toks}:=
   I.laid (t':=s.toks) (λb u e=>get?_push_of_some _ e) (le_refl _) ⟨by show 2<=sizeLine;decide,[ux,uy],.cons rx (.cons ry .nil),⟨_,get?_push_size _ rfl,rfl,_,rfl⟩⟩
  have uZ:∀b∈[z,TI,TO,i1,i2],(upd H s.heap.objs.size (.tup [x,y])) b=none:=λb hb=>by
   rw[bC (ne_of_lt (lt b hb))];exact(hf b hb).1
  have cn:∀b,b∉[z,TI,TO,i1,i2]->b≠z/\b≠TO/\b≠i1/\b≠i2:=λb h=>by
   simp only[mem_cons,not_mem_nil,or_false,not_or]at h;exact⟨h.1,h.2.2.1,h.2.2.2.1,h.2.2.2.2⟩
  have nT:s.heap.objs.size≠z:=Nat.ne_of_gt (lt z (by simp));have I3:Inv X pins σ (upd H s.heap.objs.size (.tup [x,y])) {s with heap:=g',toks:=s.toks}:=rN (s:={s with heap:=s.heap.push {cls:=.type "tuple",data:=.seq #[ux,uy]},toks:=s.toks}) (h':=g') (t':=s.toks) (ch:=[z,TI,TO,i1,i2]) In (λb o hb e=>by
   obtain⟨n1,n2,n3,n4⟩:=cn b hb;refine b8.extBut _ _ n1 ?_;rcases Heap.get?_push_cases (show(s.heap.push {cls:=.type "tuple",data:=.seq #[ux,uy]}).get? b=some o from e)with⟨e1,e2⟩|e1
   ·rw[e1,e2];exact b5
   ·exact b6 b o n1 n2 n3 n4 e1) λb hb=>⟨uZ b hb,(hf b hb).2⟩
  refine⟨.ref s.heap.objs.size,upd H s.heap.objs.size (.tup [x,y]),I3,rfl,⟨_,x,y,rfl,I.bx.fresh (le_refl _),rfl,λxs' ys' d1 d2=>?_⟩,⟨⟨_,_,b7,b8.extBut _ _ D.TIz (b6 _ _ D.TIz D.TITO D.TIi1 D.TIi2 Z.2.1),b8.extBut _ _ D.TOz b2⟩,b3.on λo e=>b8.extBut _ _ D.i1z e,b4.on λo e=>b8.extBut _ _ D.i2z e⟩,uZ⟩;rw[yG I d1 c1,yG I d2 c2];exact⟨hx,hy⟩
 done:=by
  intro X hP hw hK hc i pins s σ H E I hf st hg;subst hP hw hK;obtain⟨⟨u,v,Z⟩,w1,w2⟩:=st;obtain⟨xs,ys,c1,c2,hl⟩:=hg;obtain⟨E8,r1,p1⟩:=vK I c1;obtain⟨jl,r2,p2⟩:=vK I c2;have l1:=r1.length;have l2:=r2.length;have hT:s.TypeIs (.ref z) "zip":=⟨_,Z.1,rfl⟩;have Ju:E8.toArray[i]?=none\/jl.toArray[i]?=none:=hl.elim (λh=>.inl (by simp;omega)) λh=>.inr (by simp;omega);unfold pyNext;refine wpAny_bind (wpAny_attempt (wpAny_callSpecial?_slot (name:=Str.ofString "__next__") hT F.slot_zip_next (wpAny_call_entry F.slot_zip_next hT F.entry_zip_next (EU (I.ok.hd hc) D Z w1 w2 p1 p2 Ju λg e k he=>?_) (F.args_zip_next_1 _))));obtain⟨o,ho,pW⟩:=he;refine wpAny_bind (wpAny_isInstance (T:="StopIteration") (b:=true) ⟨o,ho,pW⟩ isSubtype_stop (wpAny_pure ⟨rfl,?_⟩));exact rN (h':=g) (t':=s.toks) (ch:=[z,TI,TO,i1,i2]) I (λb o hb e=>by
   simp only[mem_cons,not_mem_nil,or_false,not_or]at hb;exact k b o hb.1 hb.2.2.1 hb.2.2.2.1 hb.2.2.2.2 e) hf
 self:=λA i s Q E st h=>wpAny_pyIter_zip st.1.choose_spec.choose_spec.1 h
def VL (K:Fg) (ta:TA):TI:=λσ H R=>ta σ H λvs H1=>∃k1 k2 a1 a2,vs=[.ref a1,.ref a2]/\(∃xs,qd K k1 H1 a1 xs)/\(∃ys,qd K k2 H1 a2 ys)/\R (US K k1 k2 a1 a2) H1
variable {a:Expr} {ta:TA}
theorem OG{dY:List Expr}{pt:Pos}(hg:Gl X "zip")(hm:X.mg "zip"=none)(ha:PA X [a,b] ta)(hs:starEach [a,b] X.env=[(false,eval a X.env),(false,eval b X.env)]:=by rfl)(qR:starEach [b] X.env=[(false,eval b X.env)]:=by rfl):
  PI X (.Tuple dY kt pt) (.Call (.Name "zip" p) [a,b] [] pos) (VL X.K ta):=by
 intro pins s σ H R I h;refine Call_ (mN I hg hm boot_zip (PyProof.Rows.callWith_type1 (cq (ha pos pins s σ H _ I h) λus s1 ⟨vs,H1,I1,r1,q1⟩=>?_) (by rw[hs,qR]) (by rw[qR];rfl)));obtain⟨k1,k2,a1,a2,e,⟨xs,c1⟩,⟨ys,c2⟩,q⟩:=q1;subst e;cases r1 with
 |cons r rr=>
  cases rr with
  |cons r' rr=>
   cases rr;cases r;cases r';obtain⟨E8,_,p1⟩:=vK I1 c1;obtain⟨jl,_,p2⟩:=vK I1 c2;exact HP p1 p2 λh' z TI TO i1 i2 D Z w1 w2 kk new=>wpAny_pyIter_zip Z.1 ⟨z,[z,TI,TO,i1,i2],_,_,H1,rfl,I1.kept (t':=s1.toks) kk,Iv D,⟨⟨_,_,Z⟩,w1,w2⟩,λb hb=>I1.we (new b hb) (I1.bx.fresh (new b hb)),q⟩
def dF:List Dat->List Dat->List Dat
 |x::xs,y::ys=>.tuple [x,y]::dF xs ys
 |_,_=>[]
variable {fs:ar->Option (List Dat)} in
def Ea (fs:ar->Option (List Dat)):ar->Option (List Dat):=λρ=>(fs ρ).bind λds=>match ds with
 |[d1,d2]=>(cI d1).bind λx=>(cI d2).map λy=>dF x y
 |_=>none
theorem mB:∀{xs ys:List Dat} {i:Nat},(dF xs ys).length=min xs.length ys.length/\∀d,(dF xs ys)[i]?=some d->∃x y,xs[i]?=some x/\ys[i]?=some y/\d=.tuple [x,y]
 |[],ys,i=>⟨by simp[dF],λd h=>by simp[dF]at h⟩
 |x::xs,[],i=>⟨by simp[dF],λd h=>by simp[dF]at h⟩
 |x::xs,y::ys,0=>⟨by
   have:=(mB (xs:=xs) (ys:=ys) (i:=0)).1;simp only[dF,length_cons,this];omega,λd h=>by simp[dF]at h;exact⟨x,y,rfl,rfl,h.symm⟩⟩
 |x::xs,y::ys,i+1=>⟨by
   have:=(mB (xs:=xs) (ys:=ys) (i:=i)).1;simp only[dF,length_cons,this];omega,λd h=>by
   obtain⟨a,b,h1,h2,h3⟩:=(mB (xs:=xs) (ys:=ys) (i:=i)).2 d (by simpa [dF]using h);exact⟨a,b,by simpa using h1,by simpa using h2,h3⟩⟩
theorem zJ(r:aU K H Av v d)(h:cI d=some ds):∃k a,v=.ref a/\∀H' iO,aU K H' iO (.ref a) d->∃xs,qd K k H' a xs/\az K H' iO xs ds:=by
 cases d with
 |list cU=>
  cases h;obtain⟨a,xs,rfl,_,_⟩:=r.g9;refine⟨true,a,rfl,λH' iO r'=>?_⟩;obtain⟨_,xs,e,hq,rs⟩:=r'.g9;cases e;exact⟨xs,hq.sq,rs⟩
 |tuple cU=>
  cases h;obtain⟨a,xs,rfl,_,_⟩:=r.fj;refine⟨false,a,rfl,λH' iO r'=>?_⟩;obtain⟨_,xs,e,hq,rs⟩:=r'.fj;cases e;exact⟨xs,hq.sq,rs⟩
 |_=>cases h
open PySem PySem.Spec PyProof.Rows L2
open PySem.W (Dat kqdOk)
theorem uh{aW:List (Option Nat)}(hi:aW[i]?=some none)(hj:aW[j]?=some none):kD (jQ 2 (fF (aName i) (fF (aName j) lM))) aW:=λd as e p hp=>by
 unfold jQ at e;split at e
 ·split at e
  ·rename_i ds hl;match ds,hl with
   |[a,b],_=>
    cases e;rcases mem_cons.mp hp with e|hp
    ·rw[e];exact hi
    ·rcases mem_cons.mp hp with e|hp
     ·rw[e];exact hj
     ·simp at hp
  ·cases e
 ·cases e
open PySem PySem.Spec PyProof.Rows L2
open PySem.W (Dat kqdOk)
theorem az.rep{K:Fg}{H:Hp}{Av:gg}{vs:List V}{ds:List Dat}(h:az K H Av vs ds):∀k:Nat,az K H Av (List.replicate k vs).flatten (List.replicate k ds).flatten
 |0=>.nil
 |k+1=>by
  rw[replicate_succ,replicate_succ,flatten_cons,flatten_cons];exact h.append (az.rep h k)
variable {fs:ar->Option (List Dat)} in
def pI (fs:ar->Option (List Dat)) (fb:ar->Option Dat):ar->Option (List Dat):=λρ=>(fs ρ).bind λds=>(fb ρ).bind λd=>match d with
 | .int k=>if(-(2^63)<=k/\k<2^63)/\ds.length*k.toNat<=sizeLine then some (List.replicate k.toNat ds).flatten else none
 |_=>none
def yI (i:Nat) (f:aw->Option (List Dat×aw)):aw->Option Fl:=λΓ=>(f Γ).map λp=>.nx (p.2.set i (some (.a7 (.list p.1))))
open PySem PySem.Spec PyProof.Rows L2
open PySem.W (Dat kqdOk)
variable {env:Env} {ts:List Expr}
theorem cJ{k}:starEach (.Tuple ts k p::es) env=(false,eval (.Tuple ts k p) env)::starEach es env:=by rw[starEach];intro _ _ h;cases h
theorem cC{op}:starEach (.BinOp a op b p::es) env=(false,eval (.BinOp a op b p) env)::starEach es env:=by rw[starEach];intro _ _ h;cases h
theorem gQ{op}:starEach (.UnaryOp op a p::es) env=(false,eval (.UnaryOp op a p) env)::starEach es env:=by rw[starEach];intro _ _ h;cases h
theorem aM:starEach (.Subscript a b p::es) env=(false,eval (.Subscript a b p) env)::starEach es env:=by rw[starEach];intro _ _ h;cases h
theorem aZ{ks}:starEach (.Call a ts ks p::es) env=(false,eval (.Call a ts ks p) env)::starEach es env:=by rw[starEach];intro _ _ h;cases h
open PySem PySem.Spec PyProof.Rows L2
open PySem.W (Dat kqdOk)
structure QE (X:Cx) (e:Expr) (t:TE):Prop where
 o:PE X e t
structure QT (X:Cx) (e:Expr) (t:TT):Prop where
 o:PT X e t
structure QW (X:Cx) (e:Expr) (t:TT):Prop where
 o:PW X e t
structure QA (X:Cx) (e:List Expr) (t:TA):Prop where
 o:PA X e t
structure QS (X:Cx) (e:Stmt) (t:TS):Prop where
 o:PS X e t
structure YJ (X:Cx) (e:List Stmt) (t:TS):Prop where
 o:lH X e t
structure QG (X:Cx) (e:Expr) (t:TG):Prop where
 o:PG X e t
structure LP (X:Cx) (e:List Expr) (t:sV):Prop where
 o:AX X e t
structure QI (X:Cx) (tg e:Expr) (t:TI):Prop where
 o:PI X tg e t
structure QO (X:Cx) (e:Option Expr) (t:TO):Prop where
 o:PO X e t
structure Dq (X:Cx) (e:List Expr) (t:TT):Prop where
 o:Ih X e t
abbrev QF (X:Cx) (e:Expr) (f:ar->Option Dat):Prop:=QE X e (tF X.K f)
abbrev k9 (X:Cx) (e:Expr) (f:ar->Option Bool):Prop:=QT X e (nj X.K f)
abbrev AW (X:Cx) (e:Expr) (f:ar->Option Bool):Prop:=QW X e (nj X.K f)
abbrev kL (X:Cx) (e:List Expr) (f:ar->Option (List Dat)):Prop:=QA X e (Ko X.K f)
abbrev fY (X:Cx) (e:Stmt) (f:aw->Option Fl):Prop:=QS X e (yB X.K f)
abbrev iE (X:Cx) (e:List Stmt) (f:aw->Option Fl):Prop:=YJ X e (yB X.K f)
abbrev QH (X:Cx) (e:Expr) (f:HF):Prop:=QE X e (tH X.K f)
abbrev UA (X:Cx) (e:Expr) (f:aw->Option (Bool×aw)):Prop:=QT X e (SW X.K f)
abbrev vq (X:Cx) (e:List Expr) (f:aw->Option (List Dat×aw)):Prop:=QA X e (NZ X.K f)
abbrev sW (X:Cx) (tg e:Expr) (f:ar->Option (List Dat)):Prop:=QI X tg e (Km X.K f)
abbrev LQ (X:Cx) (e:Option Expr) (f:ar->Option (Option Int)):Prop:=QO X e (SX X.K f)
theorem a5(i:Nat)(hN:X.N[i]?=some x:=by rfl)(hv:n8 X.env.scope x:=by first|exact Or.inl rfl|exact Or.inr (Or.inl rfl)|exact Or.inr (Or.inr rfl))(hd:(x==("__debug__" : Str))=false:=by decide)(gB:(x==("__classdict__" : Str))=false:=by decide):
  QF X (.Name x pos) (aN i):=⟨bp (mJ hN hv hd gB) λσ H Q aP=>by
 obtain⟨Av,ρ,d,hA,hE,hf,q⟩:=aP;obtain⟨v,e1,r⟩:=hE i d (join_some hf);exact⟨v,e1,q v H (bg.refl H) r⟩⟩
theorem a8{i j pos}:
  QF X (.Constant (.int i) j pos) (fC (.int i)):=⟨bp G6 λσ H Q ⟨Av,ρ,d,hA,hE,hf,q⟩=>by cases hf;exact q _ H (bg.refl H) (.int i)⟩
theorem cZ{i j pos}:
  QF X (.Constant (.bool i) j pos) (fC (.bool i)):=⟨bp S9 λσ H Q ⟨Av,ρ,d,hA,hE,hf,q⟩=>by cases hf;exact q _ H (bg.refl H) (.bl i)⟩
theorem cK{j pos}:
  QF X (.Constant .none j pos) (fC .none):=⟨bp OL λσ H Q ⟨Av,ρ,d,hA,hE,hf,q⟩=>by cases hf;exact q _ H (bg.refl H) .bO⟩
theorem aT{i j pos}:
  QF X (.Constant (.str i) j pos) (fC (.str i)):=⟨bp OI λσ H Q ⟨Av,ρ,d,hA,hE,hf,q⟩=>by cases hf;exact q _ H (bg.refl H) (.str i)⟩
variable {fa:ar->Option Dat}
theorem bJ(ha:QF X a fa)(he:∀whole,isTrue a X.env whole=(do let v <- whole;standAt a.pos;holding [v] (truthy v)):=by intro _;rfl):
  k9 X a (lK fa):=⟨rT (IS ha.o he) λσ H Q aP=>by
 obtain⟨Av,ρ,b,hA,hE,hf,q⟩:=aP;obtain⟨d,e1,hf⟩:=bind_some hf;exact⟨Av,ρ,d,hA,hE,e1,λv H' s r=>⟨b,NW r hf,q H' s⟩⟩⟩
theorem f6(ha:k9 X a ft):
  AW X (.BoolOp .And [a] pos) ft:=⟨Mp ha.o⟩
theorem d7(ha:k9 X a ft):
  AW X (.BoolOp .Or [a] pos) ft:=⟨OA ha.o⟩
variable {gt:ar->Option Bool}
variable {rest:List Expr} in
theorem fT(ha:k9 X a ft)(hb:AW X (.BoolOp .And (b::rest) pos) gt):
  AW X (.BoolOp .And (a::b::rest) pos) (jC ft gt):=⟨C4 (OB ha.o hb.o) λσ H Q aP=>by
 obtain⟨Av,ρ,k,hA,hE,hf,q⟩:=aP;obtain⟨c,e1,hf⟩:=bind_some hf;refine⟨Av,ρ,c,hA,hE,e1,λH1 s1=>?_⟩;cases c with
 |true=>rw[if_pos rfl]at hf ⊢;exact⟨Av,ρ,k,hA.same s1,hE.same s1,hf,λH2 s2=>q H2 (s1.trans s2)⟩
 |false=>rw[if_neg Bool.false_ne_true]at hf ⊢;cases hf;exact q H1 s1⟩
variable {rest:List Expr} in
theorem cW(ha:k9 X a ft)(hb:AW X (.BoolOp .Or (b::rest) pos) gt):
  AW X (.BoolOp .Or (a::b::rest) pos) (jo ft gt):=⟨C4 (S2 ha.o hb.o) λσ H Q aP=>by
 obtain⟨Av,ρ,k,hA,hE,hf,q⟩:=aP;obtain⟨c,e1,hf⟩:=bind_some hf;refine⟨Av,ρ,c,hA,hE,e1,λH1 s1=>?_⟩;cases c with
 |false=>rw[if_neg Bool.false_ne_true]at hf ⊢;exact⟨Av,ρ,k,hA.same s1,hE.same s1,hf,λH2 s2=>q H2 (s1.trans s2)⟩
 |true=>rw[if_pos rfl]at hf ⊢;cases hf;exact q H1 s1⟩
theorem cD(h:AW X e ft):
  k9 X e ft:=⟨h.o.pt⟩
theorem dJ(ha:k9 X a ft):
  k9 X (.UnaryOp .Not a pos) (mf ft):=⟨rT (OC ha.o) λσ H Q aP=>by
 obtain⟨Av,ρ,k,hA,hE,hf,q⟩:=aP;unfold mf at hf;cases e:ft ρ with
 |none=>rw[e]at hf;cases hf
 |some c=>rw[e]at hf;cases hf;exact⟨Av,ρ,c,hA,hE,e,q⟩⟩
theorem fP{op}(h:QF X a fa):
  QF X (.BoolOp op [a] pos) fa:=⟨OJ h.o⟩
variable {rest:List Expr} in
theorem ja(ha:QF X a fa)(hb:QF X (.BoolOp .And (b::rest) pos) fb):
  QF X (.BoolOp .And (a::b::rest) pos) (o9 fa fb):=⟨bp (OM ha.o hb.o) λσ H Q aP=>by
 obtain⟨Av,ρ,k,hA,hE,hf,q⟩:=aP;obtain⟨d,e1,A1⟩:=bind_some hf;clear hf;obtain⟨c,e2,hf⟩:=bind_some A1;clear A1;have e3:=n6 e2;subst e3;refine⟨Av,ρ,_,hA,hE,e1,λx H1 s1 r=>⟨c,r.l9,?_⟩⟩;cases c with
 |true=>rw[if_pos rfl]at hf ⊢;exact⟨Av,ρ,k,hA.same s1,hE.same s1,hf,λv H2 s2 r2=>q v H2 (s1.trans s2) r2⟩
 |false=>rw[if_neg Bool.false_ne_true]at hf ⊢;cases hf;exact q _ H1 s1 (.bl false)⟩
variable {rest:List Expr} in
theorem qz(ha:QF X a fa)(hb:QF X (.BoolOp .Or (b::rest) pos) fb):
  QF X (.BoolOp .Or (a::b::rest) pos) (sR fa fb):=⟨bp (S7 ha.o hb.o) λσ H Q aP=>by
 obtain⟨Av,ρ,k,hA,hE,hf,q⟩:=aP;obtain⟨d,e1,A1⟩:=bind_some hf;clear hf;obtain⟨c,e2,hf⟩:=bind_some A1;clear A1;have e3:=n6 e2;subst e3;refine⟨Av,ρ,_,hA,hE,e1,λx H1 s1 r=>⟨c,r.l9,?_⟩⟩;cases c with
 |false=>rw[if_neg Bool.false_ne_true]at hf ⊢;exact⟨Av,ρ,k,hA.same s1,hE.same s1,hf,λv H2 s2 r2=>q v H2 (s1.trans s2) r2⟩
 |true=>rw[if_pos rfl]at hf ⊢;cases hf;exact q _ H1 s1 (.bl true)⟩
theorem Mn(ha:QF X a fa):
  QF X (.UnaryOp .Not a pos) (rf fa):=⟨bp (OK ha.o) λσ H Q aP=>by
 obtain⟨Av,ρ,k,hA,hE,hf,q⟩:=aP;obtain⟨d,e1,hf⟩:=bind_some hf;cases e2:lF d with
 |none=>rw[e2]at hf;cases hf
 |some c=>
  rw[e2]at hf;cases hf;have e3:=n6 e2;subst e3;exact⟨Av,ρ,_,hA,hE,e1,λx H1 s1 r=>⟨c,r.l9,q _ H1 s1 (.bl _)⟩⟩⟩
theorem gq(hc:k9 X c ft)(ha:QF X a fa)(hb:QF X b fb):
  QF X (.IfExp c a b pos) (vc ft fa fb):=⟨bp (J2 hc.o ha.o hb.o) λσ H Q aP=>by
 obtain⟨Av,ρ,k,hA,hE,hf,q⟩:=aP;obtain⟨c',e1,hf⟩:=bind_some hf;refine⟨Av,ρ,c',hA,hE,e1,λH1 s1=>?_⟩;cases c' with
 |true=>rw[if_pos rfl]at hf ⊢;exact⟨Av,ρ,k,hA.same s1,hE.same s1,hf,λv H2 s2 r2=>q v H2 (s1.trans s2) r2⟩
 |false=>rw[if_neg Bool.false_ne_true]at hf ⊢;exact⟨Av,ρ,k,hA.same s1,hE.same s1,hf,λv H2 s2 r2=>q v H2 (s1.trans s2) r2⟩⟩
theorem a9:
  kL X [] cG:=⟨rY qJ λσ H Q ⟨Av,ρ,d,hA,hE,hf,q⟩=>by cases hf;exact q _ H (bg.refl H) .nil⟩
variable {fs:ar->Option (List Dat)} in
theorem a6(ha:QF X e fa)(hr:kL X es fs)(hs:starEach (e::es) X.env=(false,eval e X.env)::starEach es X.env:=by rfl):
  kL X (e::es) (bh fa fs):=⟨rY (kS ha.o hr.o hs) λσ H Q aP=>by
 obtain⟨Av,ρ,d,hA,hE,hf,q⟩:=aP;obtain⟨dx,e1,hf⟩:=bind_some hf;obtain⟨ds,e2,hf⟩:=ba hf;subst hf;exact⟨Av,ρ,dx,hA,hE,e1,λx H1 s1 r1=>⟨Av,ρ,ds,hA.same s1,hE.same s1,e2,λxs H2 s2 r2=>q _ H2 (s1.trans s2) (.cons (r1.same s2) r2)⟩⟩⟩
variable {fs:ar->Option (List Dat)} in
theorem aX{k:Nat}(h:kL X es fs){x1}:
  QF X (.Tuple es x1 pos) (kx fs):=⟨bp (G0 h.o) λσ H Q aP=>by
 obtain⟨Av,ρ,d,hA,hE,hf,q⟩:=aP;obtain⟨ds,e1,hf⟩:=bind_some hf;split at hf
 ·rename_i hz;cases hf;exact⟨Av,ρ,ds,hA,hE,e1,λxs H1 s1 r1=>⟨by rw[r1.length];exact hz,λp hp=>q _ _ (s1.trans (bM hp _)) (.pd (hA.same s1) hp r1)⟩⟩
 ·cases hf⟩
variable {fs:ar->Option (List Dat)} in
theorem eC(h:kL X es fs):
  QF X (.List es pos) (o8 fs):=⟨bp (zh h.o) λσ H Q aP=>by
 obtain⟨Av,ρ,d,hA,hE,hf,q⟩:=aP;obtain⟨ds,e1,hf⟩:=bind_some hf;split at hf
 ·rename_i hz;cases hf;exact⟨Av,ρ,ds,hA,hE,e1,λxs H1 s1 r1=>⟨by rw[r1.length];exact hz,λp hp=>q _ _ (s1.trans (bM hp _)) (.nZ (hA.same s1) hp r1)⟩⟩
 ·cases hf⟩
variable {k:Nat}
variable {fs:ar->Option (List Dat)} in
theorem ay(D:Dn X.prog X.w X.K X.mg X.base k x ps n F)(hr:cF k X.A)(ha:kL X (e::es) fs)(hg:Gl X x:=by rfl)(jx:(x==("__debug__" : Str))=false:=by decide)(he:starEach (e::es) X.env=(false,eval e X.env)::starEach es X.env:=by rfl)(dO:(backTo pos (starEach es X.env)).any (·.1)=false:=by rfl):
  QF X (.Call (.Name x p) (e::es) [] pos) (kK n F fs):=⟨by
 obtain⟨f,fd,h1,h2,h3,h4⟩:=D.ex;exact bp (rX h1 hr hg h2 h3 h4 .nil yh ha.o jx he dO) RS⟩
theorem aV:
  iE X [] kg:=⟨yY Ms λD σ H ⟨ah,Av,pn,aF,Γ,fl,G,hf,q⟩=>by cases hf;exact q σ H G⟩
theorem ag(h:fY X st g):
  iE X [st] g:=⟨C8 h.o⟩
variable {rest:List Stmt} in
theorem ae(h1:fY X st g1)(h2:iE X rest g2):
  iE X (st::rest) (du g1 g2):=⟨yY (IT h1.o h2.o) λD σ H aP=>by
 obtain⟨ah,Av,pn,aF,Γ,fl,G,hf,q⟩:=aP;obtain⟨r9,e1,hf⟩:=bind_some hf;refine⟨ah,Av,pn,aF,Γ,r9,G,e1,?_⟩;cases r9 with
 |nx af=>exact λbH H' G'=>⟨ah,Av,pn,aF,af,fl,G',hf,q⟩
 |rt d=>cases hf;exact q
 |bk af=>cases hf;exact q
 |ct af=>cases hf;exact q
 |rm d af=>cases hf;exact q⟩
theorem ax(h:QF X e f):
  fY X (.Return (some e) pos) (nW f):=⟨bY (uH h.o) λD σ H aP=>by
 obtain⟨ah,Av,pn,aF,Γ,fl,⟨ad,G⟩,hf,q⟩:=aP;obtain⟨d,e1,hf⟩:=ba hf;subst hf;exact⟨Av,c7 Γ,d,G.j5.same G.same,G.rh,e1,λv H' s r=>q v H' (G.same.trans s) r⟩⟩
theorem bc{a b:List Stmt}(hc:k9 X c ft)(ha:iE X a g1)(hb:iE X b g2):
  fY X (.If c a b pos) (mG ft g1 g2):=⟨bY (KD hc.o ha.o hb.o) λD σ H aP=>by
 obtain⟨ah,Av,pn,aF,Γ,fl,⟨ad,G⟩,hf,q⟩:=aP;obtain⟨k,e1,hf⟩:=bind_some hf;refine⟨Av,c7 Γ,k,G.j5.same G.same,G.rh,e1,λH' s=>?_⟩;cases k with
 |true=>rw[if_pos rfl]at hf ⊢;exact⟨ah,Av,pn,aF,Γ,fl,⟨ad,G.grow s⟩,hf,q⟩
 |false=>rw[if_neg Bool.false_ne_true]at hf ⊢;exact⟨ah,Av,pn,aF,Γ,fl,⟨ad,G.grow s⟩,hf,q⟩⟩
variable {pos':Pos}
theorem aC(i:Nat)(hN:X.N.Nodup)(h:QF X e f)(hi:X.N[i]?=some x:=by rfl)(hx:Loc X.env.scope x:=by first|exact .inl rfl|exact .inr rfl)(hs:swapsWith e (some (.Name x pos')) pos.line X.env=pure false:=by rfl)(hf:X.fn x=true\/X.env.scope.names.lookup x=some .local:=by first|exact .inl rfl|exact .inr rfl):
  fY X (.Assign [.Name x pos'] e pos) (iA i f):=⟨bY (qC hN hi hx h.o hs hf) NY⟩
theorem aq(i:Nat)(hN:X.N.Nodup)(hi:X.N[i]?=some x:=by rfl)(hx:Loc X.env.scope x:=by first|exact .inl rfl|exact .inr rfl)(hf:X.fn x=true\/X.env.scope.names.lookup x=some .local:=by first|exact .inl rfl|exact .inr rfl):
  QG X (.Name x pos) (iQ X.K (aName i)):=⟨Ca (MB hN hi hx hf) λv σ H Q ⟨Av,d,as,r,e,q⟩=>by cases e;exact q [(i,v)] (.cons r .nil)⟩
theorem bQ:
  LP X [] (DA X.K lM):=⟨zb MA λvs σ H Q aP=>by
 obtain⟨Av,ds,as,r,e,q⟩:=aP;cases r with
 |nil=>cases e;exact⟨rfl,q [] .nil⟩
 |cons _ _=>cases e⟩
variable {gt:Dat->Option cN}
theorem aI{dY:List Expr}{Ha:List Dat->Option cN}(h1:QG X tg (iQ X.K gt))(h2:LP X dY (DA X.K Ha))(hs:(assignEach (tg::dY) X.env).map (·.2)=assign tg X.env::(assignEach dY X.env).map (·.2):=by rfl):
  LP X (tg::dY) (DA X.K (fF gt Ha)):=⟨zb (J0 h1.o h2.o hs) λvs σ H Q aP=>by
 obtain⟨Av,ds,as,r,e,q⟩:=aP;cases r with
 |nil=>cases e
 | @cons v Wu d cU rd rr=>
  obtain⟨a,e1,e⟩:=bind_some (show(gt d).bind _=some as from e);obtain⟨b,e2,e⟩:=ba e;subst e;refine⟨v,Wu,rfl,Av,d,a,rd,e1,λws hw=>⟨Av,cU,b,rr,e2,λus hu=>?_⟩⟩;have:=q (ws++us) (hw.append hu);unfold oW at this ⊢;rw[List.foldl_append]at this;exact this⟩
theorem c8{dY:List Expr}{Ha:List Dat->Option cN}(hc:X.calm=true)(h:LP X dY (DA X.K Ha))(hn:(assignEach dY X.env).length=n:=by rfl)(hst:(assignEach dY X.env).findIdx? (·.1)=none:=by rfl):
  QG X (.Tuple dY k pos) (iQ X.K (jQ n Ha)):=⟨Ca (OH hc h.o hn hst) λv σ H Q aP=>by
 obtain⟨Av,d,as,r,e,q⟩:=aP;unfold jQ at e;split at e
 ·split at e
  ·rename_i ds hl;obtain⟨a,xs,rfl,hq,rs⟩:=r.fj;exact⟨a,xs,rfl,hq.sq,by rw[rs.length];exact hl,Av,ds,as,rs,e,q⟩
  ·cases e
 ·cases e⟩
theorem mH(h:QF X e f)(hg:QG X tg (iQ X.K gt))(hs:swapsWithSole [tg] e pos.line X.env=pure false:=by rfl)(hw:swappedStores [tg] e X.env=pure none:=by rfl)(h1:(assignEach [tg] X.env).map (·.2)=[assign tg X.env]:=by rfl):
  fY X (.Assign [tg] e pos) (qt gt f):=⟨bY (qE h.o hg.o hs hw h1) λD σ H aP=>by
 obtain⟨ah,Av,pn,aF,Γ,fl,⟨ad,G⟩,hf,q⟩:=aP;obtain⟨d,e1,hf⟩:=bind_some hf;obtain⟨as,e2,hf⟩:=ba hf;subst hf;exact⟨aO Av Γ ad,bj Γ,d,G.gf,G.j3,e1,λv H' s r=>⟨aO Av Γ ad,d,as,r,e2,λws hw=>q _ _ ⟨ad,GA.ib hw (λ_ z=>z) (G.grow s)⟩⟩⟩⟩
variable {body:List Stmt}
theorem dI(hp:PassesOwn (model X.prog X.w) X.A X.env X.xe)(hc:X.calm=true)(hi:QF X iter f)(hg:QG X tg (iQ X.K gt))(hb:iE X body gb)(hs:∀x,foldedSetIterable iter X.env x=pure x:=by intro _;rfl):
  fY X (.For tg iter body [] pos) (nX gt gb f):=⟨bY (uI hp hc (qF hi.o) hg.o hb.o hs) λD σ H aP=>by
 obtain⟨ah,Av,pn,aF,Γ,fl,⟨ad,G⟩,hf,q⟩:=aP;obtain⟨d,e1,hf⟩:=bind_some hf;obtain⟨ds,e2,hf⟩:=bind_some hf;refine⟨aO Av Γ ad,bj Γ,d,G.gf,G.j3,e1,λx H1 s1 r=>?_⟩;cases d with
 |list cU=>
  cases e2;obtain⟨a,xs,rfl,hq,rs⟩:=r.g9;exact⟨a,rfl,.inl ⟨⟨xs,hq.sq⟩,qY nB ⟨ad,(G.grow s1).hide r⟩ hf q⟩⟩
 |tuple cU=>
  cases e2;obtain⟨a,xs,rfl,hq,rs⟩:=r.fj;exact⟨a,rfl,.inr ⟨⟨xs,hq.sq⟩,qY p4 ⟨ad,(G.grow s1).hide r⟩ hf q⟩⟩
 |_=>cases e2⟩
variable {fs:ar->Option (List Dat)} in
theorem DP(hp:PassesOwn (model X.prog X.w) X.A X.env X.xe)(hc:X.calm=true)(hm:X.mg "range"=none)(ha:kL X [a] fs)(hg:QG X tg (iQ X.K gt))(hb:iE X body gb)(GV:Gl X "range":=by rfl)(hst:starEach [a] X.env=[(false,eval a X.env)]:=by rfl)(hs:∀x,foldedSetIterable (.Call (.Name "range" p) [a] [] pos') X.env x=pure x:=by intro _;rfl):
  fY X (.For tg (.Call (.Name "range" p) [a] [] pos') body [] pos) (DG jI gt gb fs):=⟨bY (uI hp hc (qG GV hm ha.o hst) hg.o hb.o hs) λD σ H aP=>by
 obtain⟨ah,Av,pn,aF,Γ,fl,⟨ad,G⟩,hf,q⟩:=aP;obtain⟨as,e1,hf⟩:=bind_some hf;obtain⟨ds,e2,hf⟩:=bind_some hf;refine⟨Av,c7 Γ,as,G.j5.same G.same,G.rh,e1,λvs H1 s1 r=>?_⟩;unfold jI at e2;split at e2
 ·rename_i j;split at e2
  ·rename_i hj;cases e2;obtain⟨v,rfl,rv⟩:=r.eJ;rw[rv.cQ];exact⟨j,rfl,hj.1,hj.2,qY p6 ⟨ad,(G.grow s1).hide .bO⟩ hf q⟩
  ·cases e2
 ·cases e2⟩
theorem uF(fuel:aw->Nat)(hp:PassesOwn (model X.prog X.w) X.A X.env X.xe)(hc:k9 X c ft)(hb:iE X body gb):
  fY X (.While c body [] pos) (mF fuel ft gb):=⟨bY (IV hp hc.o hb.o) λD σ H aP=>by
 obtain⟨ah,Av,pn,aF,Γ,fl,G,hf,q⟩:=aP;refine⟨λm σ H=>∃Γ,lO X.K ah Av pn aF H σ Γ/\fR ft gb m Γ=some fl,⟨_,Γ,G,hf⟩,?_⟩;rintro m σ H ⟨Γ,⟨ad,G⟩,hf⟩;cases m with
 |zero=>cases hf
 |succ m=>
  obtain⟨k,e1,hf⟩:=bind_some (show(ft (c7 Γ)).bind _=some fl from hf);refine⟨Av,c7 Γ,k,G.j5.same G.same,G.rh,e1,λH1 s1=>?_⟩;cases k with
  |false=>
   rw[if_neg Bool.false_ne_true]at hf ⊢;cases hf;exact q σ H1 ⟨ad,G.grow s1⟩
  |true=>
   rw[if_pos rfl]at hf ⊢;obtain⟨r9,e2,hf⟩:=bind_some hf;refine⟨λbH H'=>∃af,lO X.K ah Av pn aF H' bH af/\fR ft gb m af=some fl,λbH H' ⟨af,G',h'⟩=>⟨m,Nat.lt_succ_self m,af,G',h'⟩,ah,Av,pn,aF,Γ,r9,⟨ad,G.grow s1⟩,e2,?_⟩;cases r9 with
   |nx af=>exact λgj H2 G2=>⟨af,G2,hf⟩
   |ct af=>exact λgj H2 G2=>⟨af,G2,hf⟩
   |bk af=>cases hf;exact λgj H2 G2=>q gj H2 G2
   |rt v=>cases hf;exact q
   |rm v af=>cases hf;exact q⟩
variable {fs:ar->Option (List Dat)} in
theorem gZ(h:kL X es fs):
  QE X (.List es pos) (kc X.K (nJ fs)):=⟨bp (zh h.o) λσ H Q aP=>by
 obtain⟨Av,ρ,d,hA,hE,hf,q⟩:=aP;obtain⟨ds,e1,hf⟩:=bind_some hf;obtain⟨hz,e2⟩:=CJ hf;cases e2;exact⟨Av,ρ,d,hA,hE,e1,λxs H1 s1 r1=>⟨by rw[r1.length];exact hz,λp hp=>q H1 p xs s1 hp r1⟩⟩⟩
variable {fs:ar->Option (List Dat)} in
theorem kQ(i:Nat)(hN:X.N.Nodup)(h:QE X e (kc X.K fs))(oH:i≠0:=by decide)(hi:X.N[i]?=some x:=by rfl)(hx:Loc X.env.scope x:=by first|exact .inl rfl|exact .inr rfl)(hs:swapsWith e (some (.Name x pos')) pos.line X.env=pure false:=by rfl)(hf:X.fn x=true\/X.env.scope.names.lookup x=some .local:=by first|exact .inl rfl|exact .inr rfl):
  fY X (.Assign [.Name x pos'] e pos) (vM i fs):=⟨bY (qC hN hi hx h.o hs hf) λD σ H aP=>by
 obtain⟨ah,Av,pn,aF,Γ,fl,⟨ad,G⟩,hf,q⟩:=aP;obtain⟨ds,e1,hf⟩:=ba hf;subst hf;exact⟨aO Av Γ ad,bj Γ,ds,G.gf,G.j3,e1,λH1 p xs s hp r=>q _ _ ⟨_,(G.grow s).O8 i oH hp r⟩⟩⟩
variable {p1 p2 p3:Pos}
theorem ir(i:Nat)(h:QF X e f)(hN:X.N[i]?=some x:=by rfl)(hv:n8 X.env.scope x:=by first|exact Or.inl rfl|exact Or.inr (Or.inl rfl)|exact Or.inr (Or.inr rfl))(hd:(x==("__debug__" : Str))=false:=by decide)(gB:(x==("__classdict__" : Str))=false:=by decide)(Eh:attributeBase (.Name x p1) "append" X.env (eval (.Name x p1) X.env)=eval (.Name x p1) X.env:=by rfl)(Jt:((backTo p3 (starEach [e] X.env)).all (λx=>!x.1)&&(backToKw p3 (keywordEach [] X.env)).all (λx=>x.1.isSome)&&decide (([e]:List Expr).length+([]:List Keyword).length+(if([]:List Keyword).isEmpty then 0 else 1)<30))=true:=by rfl)(uX:(p2.endLine==p3.line)=true:=by rfl)(Tw:starEach [e] X.env=(false,eval e X.env)::starEach [] X.env:=by rfl)(zX:(backTo p3 (starEach [] X.env)).any (·.1)=false:=by rfl)(hs:swapsWith (.Call (.Attribute (.Name x p1) "append" p2) [e] [] p3) none pos.line X.env=pure false:=by rfl):
  fY X (.Expr (.Call (.Attribute (.Name x p1) "append" p2) [e] [] p3) pos) (tm i f):=⟨bY (Mt (S8 PySem.F.plainAttrs_list PySem.F.slot_list_append PySem.F.type_list_append Gv (mJ hN hv hd gB) (kS h.o qJ Tw) Eh Jt uX Tw zX) hs) λD σ H aP=>by
 obtain⟨ah,Av,pn,aF,Γ,fl,⟨ad,G⟩,hf,q⟩:=aP;unfold tm at hf;split at hf
 ·rename_i ds hi;obtain⟨d,e1,hf⟩:=bind_some hf;obtain⟨hz,hf⟩:=CJ hf;cases hf;obtain⟨xs,g1,g2,g3,g4⟩:=G.own i ds hi;refine⟨_,g1,.inl ⟨rfl,xs,.of g2⟩,aO Av Γ ad,bj Γ,d,G.gf,G.j3,e1,λv H1 s1 r=>?_⟩;have G1:=G.grow s1;obtain⟨NM,k1,k2,k3,k4⟩:=G1.own i ds hi;exact⟨_,NM,v,rfl,rfl,k2,by rw[k3.length];exact hz,q _ _ ⟨ad,G1.change hi (k3.append (.cons r .nil))⟩⟩
 ·cases hf⟩
theorem ic{fa:Addr}(U:nM K x qual st fa fd)(hm:mg x=some (.ref fa))(hB:Binds K fd ps [])(S:gi N ps (bf st))(hn:ps.length=n)(hbody:∀(bF:Value) (A:Around) (outer:List Env) (s:Shared) (H:Hp) (E:XK),cF k (A.deeper (envOfC qual (bf st) s.heap.objs.size fa bF))->iE (jM jj P w K mg base N qual (bf st) fa bF A outer s H E).oB (dj st) g)(hF:∀ds d,ds.length=n->F ds=some d->jG N g ds=some d):
  Dn P w K mg base (k+1) x ps n F:=
 SI (U:=U) (hm:=hm) (hB:=hB) (S:=S) (hn:=hn) (hbody:=(λa b c d e f g=>(hbody a b c d e f g).o)) (hF:=hF)
theorem eI(ha:QF X a fa)(hb:QF X b fb):
  QF X (.BinOp a .Add b pos) (f2 kC fa fb):=⟨lu (uL.or lY) (by
 intro H Av x y dx dy d Q hA rx ry h q;unfold kC at h;split at h
 ·cases h;exact .inl ⟨_,_,rx.cQ,ry.cQ,q _ H (bg.refl H) (.int _)⟩
 ·split at h
  ·rename_i hz;cases h;exact .inr ⟨_,_,rx.iF,ry.iF,hz,q _ H (bg.refl H) (.str _)⟩
  ·cases h
 ·cases h) ha.o hb.o⟩
theorem oy(ha:QF X a fa)(hb:QF X b fb):
  QF X (.BinOp a .Sub b pos) (f2 DC fa fb):=⟨lu Cc p7 ha.o hb.o⟩
theorem bN(ha:QF X a fa)(hb:QF X b fb):
  QF X (.BinOp a .Mult b pos) (f2 jK fa fb):=⟨lu Cd p7 ha.o hb.o⟩
theorem j9(ha:QF X a fa)(hb:QF X b fb):
  QF X (.BinOp a .Mod b pos) (f2 vW fa fb):=⟨lu J3 p7 ha.o hb.o⟩
theorem vP(ha:QF X a fa)(hb:QF X b fb):
  QF X (.BinOp a .Pow b pos) (f2 DX fa fb):=⟨lu OO p7 ha.o hb.o⟩
theorem yU(ha:QF X a fa)(hb:QF X b fb):
  QF X (.Compare a [.Lt] [b] pos) (f2 Gx fa fb):=⟨uK KN rZ ha.o hb.o (ie _)⟩
theorem FT(ha:QF X a fa)(hb:QF X b fb):
  QF X (.Compare a [.Gt] [b] pos) (f2 Hb fa fb):=⟨uK KO rZ ha.o hb.o (ie _)⟩
theorem ox(ha:QF X a fa)(hb:QF X b fb):
  k9 X (.Compare a [.Lt] [b] pos) (bS (f2 Gx fa fb)):=⟨jW KN rZ ha.o hb.o (ie _)⟩
theorem Ml(ha:QF X a fa)(hb:QF X b fb):
  k9 X (.Compare a [.LtE] [b] pos) (bS (f2 Tj fa fb)):=⟨jW Sa rZ ha.o hb.o (ie _)⟩
theorem rQ(ha:QF X a fa)(hb:QF X b fb):
  k9 X (.Compare a [.Gt] [b] pos) (bS (f2 Hb fa fb)):=⟨jW KO rZ ha.o hb.o (ie _)⟩
theorem Mm(ha:QF X a fa)(hb:QF X b fb):
  k9 X (.Compare a [.GtE] [b] pos) (bS (f2 Uh fa fb)):=⟨jW Sb rZ ha.o hb.o (ie _)⟩
theorem dw(ha:QF X a fa):
  QF X (.UnaryOp .USub a pos) (f1 o6 fa):=⟨S5 NS (by
 intro H Av x dx d Q hA rx h q;unfold o6 at h;split at h
 ·cases h;exact⟨_,rx.cQ,q _ H (bg.refl H) (.int _)⟩
 ·cases h) ha.o⟩
theorem iT(hr:cF k X.A)(ha:QF X a fa)(hb:QF X b fb):
  QF X (.Compare a [.Eq] [b] pos) (f2 cM fa fb):=⟨uK (E1.or (zu hr.units)) zv ha.o hb.o (ie _)⟩
theorem Ox(hr:cF k X.A)(ha:QF X a fa)(hb:QF X b fb):
  QF X (.Compare a [.NotEq] [b] pos) (f2 gK fa fb):=⟨uK (KL.or (Gg hr.units)) Gk ha.o hb.o (ie _)⟩
theorem cy(hr:cF k X.A)(ha:QF X a fa)(hb:QF X b fb):
  k9 X (.Compare a [.Eq] [b] pos) (bS (f2 cM fa fb)):=⟨jW (E1.or (zu hr.units)) zv ha.o hb.o (ie _)⟩
theorem dg(hr:cF k X.A)(ha:QF X a fa)(hb:QF X b fb):
  k9 X (.Compare a [.NotEq] [b] pos) (bS (f2 gK fa fb)):=⟨jW (KL.or (Gg hr.units)) Gk ha.o hb.o (ie _)⟩
variable {fs:ar->Option (List Dat)} in
theorem mm(hm:X.mg "abs"=none)(ha:kL X (e::es) fs)(hg:Gl X "abs":=by rfl)(he:starEach (e::es) X.env=(false,eval e X.env)::starEach es X.env:=by rfl)(dO:(backTo pos (starEach es X.env)).any (·.1)=false:=by rfl):
  QF X (.Call (.Name "abs" p) (e::es) [] pos) (i7 Ex fs):=⟨zg JX HS hm ha.o hg (by decide +kernel) (by decide) (by decide) he dO⟩
variable {fs:ar->Option (List Dat)} in
theorem cX(hm:X.mg "len"=none)(ha:kL X (e::es) fs)(hg:Gl X "len":=by rfl)(he:starEach (e::es) X.env=(false,eval e X.env)::starEach es X.env:=by rfl)(dO:(backTo pos (starEach es X.env)).any (·.1)=false:=by rfl):
  QF X (.Call (.Name "len" p) (e::es) [] pos) (i7 kU fs):=⟨zg JW HR hm ha.o hg (by decide +kernel) (by decide) (by decide) he dO⟩
theorem fD(T:String){TS:Str}(hm:X.mg "isinstance"=none)(Xi:X.mg TS=none)(ha:QF X a fa)(hv:bootBuiltins TS=some (.type T):=by decide +kernel)(hg:Gl X "isinstance":=by rfl)(Xs:Gl X TS:=by rfl)(hn:TS≠"__name__":=by decide)(jx:(TS==("__debug__" : Str))=false:=by decide)(he:starEach [a,.Name TS p2] X.env=(false,eval a X.env)::starEach [.Name TS p2] X.env:=by rfl)(Xw:starEach [.Name TS p2] X.env=(false,eval (.Name TS p2) X.env)::starEach [] X.env:=by rfl)(dO:(backTo pos (starEach [.Name TS p2] X.env)).any (·.1)=false:=by rfl):
  QF X (.Call (.Name "isinstance" p) [a,.Name TS p2] [] pos) (f1 (oE T) fa):=⟨bp (zi (Bc T) hg hm (by decide +kernel) (kS ha.o (kS (MG (v:=.ty T) Xs Xi hv rfl hn jx) qJ Xw) he) (by decide) (by decide) he dO) λσ H Q aP=>by
  obtain⟨Av,ρ,d,hA,hE,hf,q⟩:=aP;obtain⟨dx,e1,hf⟩:=bind_some hf;obtain⟨k,rfl⟩:=Jk hf;exact⟨Av,ρ,dx,hA,hE,e1,λx H1 s1 r1=>⟨Av,x,dx,k,rfl,r1,hf,q _ H1 s1 (.bl k)⟩⟩⟩
theorem aj(ha:QF X a fa)(hb:QF X b fb)(hs:wK b:=by exact λ_ _=>rfl):
  QF X (.Subscript a b pos) (f2 bA fa fb):=⟨bp (KI (Ct.or GG) ha.o hb.o hs) (yb (by
 intro H Av x y dx dy d Q hA rx ry h q;unfold bA at h;split at h
 ·obtain⟨p,xs,rfl,hq,rs⟩:=rx.g9;obtain⟨v,hv,rv⟩:=rs.gD h;exact .inl ⟨p,xs,_,v,rfl,ry.cQ,hq.sq,hv,q v H (bg.refl H) rv⟩
 ·obtain⟨p,xs,rfl,hq,rs⟩:=rx.fj;obtain⟨v,hv,rv⟩:=rs.gD h;exact .inr ⟨p,xs,_,v,rfl,ry.cQ,hq.sq,hv,q v H (bg.refl H) rv⟩
 ·cases h))⟩
theorem iS:
  LQ X none nD:=⟨C9 Mw λσ H Q ⟨Av,ρ,o,hA,hE,hf,q⟩=>by cases hf;exact q H (bg.refl H)⟩
theorem iR(h:QF X e f):
  LQ X (some e) (nC f):=⟨C9 (Mv h.o) λσ H Q aP=>by
 obtain⟨Av,ρ,o,hA,hE,hf,q⟩:=aP;obtain⟨d,e1,hf⟩:=bind_some hf;obtain⟨i,e2,PZ⟩:=ba hf;subst PZ;have e3:=AL e2;rw[e3]at e1;exact⟨Av,ρ,_,hA,hE,e1,λx H' s r=>⟨i,r.cQ,q H' s⟩⟩⟩
variable {elt:Expr} {ifs:List Expr} {cl:List (Str×Addr)} {fe:ar->Option Dat}
theorem gn{aW:List (Option Nat)}{fi:ar->Option Dat}(hc:X.calm=true)(B:qg X scope cl N' aW)(hi:QF X iter fi)(hg:∀C aL ah ex,QG (dt X scope cl N' C aL ah ex) tg (iQ X.K gt))(ht:∀C aL ah ex,Dq (dt X scope cl N' C aL ah ex) ifs (nj X.K ft))(he:∀C aL ah ex,QF (dt X scope cl N' C aL ah ex) elt fe)(hT:kD gt aW)(hs:∀x,foldedSetIterable iter X.env x=pure x:=by intro _;rfl):
  QE X (.ListComp elt [⟨tg,iter,ifs,0⟩] scope pos) (kc X.K (ky aW gt ft fe fi)):=⟨bp (rW hc B (qF hi.o) ((λC aL ah ex=>(hg C aL ah ex).o)) ((λC aL ah ex=>(ht C aL ah ex).o)) ((λC aL ah ex=>(he C aL ah ex).o)) hs) (BK hT)⟩
variable {fs:ar->Option (List Dat)} in
theorem cE(h:QE X e (kc X.K fs)):
  QF X e (fL fs):=⟨bp h.o λσ H Q aP=>by
 obtain⟨Av,ρ,d,hA,hE,hf,q⟩:=aP;obtain⟨ds,e1,hf⟩:=ba hf;subst hf;exact⟨Av,ρ,ds,hA,hE,e1,λH1 p xs s hp r=>q _ _ (s.trans (bM hp _)) (.nZ (hA.same s) hp r)⟩⟩
theorem d9:
  Dq X [] (nj X.K fk):=⟨λpins s σ H Q I ⟨Av,ρ,b,hA,hE,hf,q⟩=>by cases hf;exact rS pins s σ H Q I (q H (bg.refl H))⟩
theorem jS(h:k9 X c ft):
  Dq X [c] (nj X.K ft):=⟨Mr h.o⟩
variable {fs:ar->Option (List Dat)} in
theorem IJ(i j:Nat){y:Str}{py pt:Pos}{kt k2 yX}(hc:X.calm=true)(hN:X.N.Nodup)(PY:i≠j)(ha:kL X [a,b] fs)(hi:X.N[i]?=some x:=by rfl)(hj:X.N[j]?=some y:=by rfl)(hx:X.env.scope.names.lookup x=some .local:=by rfl)(hy:X.env.scope.names.lookup y=some .local:=by rfl)(hw:swappedStores [.Tuple [.Name x px,.Name y py] kt pt] (.Tuple [a,b] k2 yX) X.env=pure (some [x,y]):=by rfl)(hs:swapsWithSole [.Tuple [.Name x px,.Name y py] kt pt] (.Tuple [a,b] k2 yX) pos.line X.env=pure false:=by rfl):
  fY X (.Assign [.Tuple [.Name x px,.Name y py] kt pt] (.Tuple [a,b] k2 yX) pos) (ID i j fs):=⟨bY (OD hc hN hi hj PY hx hy ha.o hw hs) λD σ H aP=>by
 obtain⟨ah,Av,pn,aF,Γ,fl,⟨ad,G⟩,hf,q⟩:=aP;obtain⟨ds,e1,hf⟩:=bind_some hf;refine⟨aO Av Γ ad,bj Γ,ds,G.gf,G.j3,e1,λvs H1 s1 r=>?_⟩;match ds,hf with
 |[d,d'],hf=>
  cases hf;obtain⟨v,u,rfl,rv,ru⟩:=r.fN;exact⟨v,u,rfl,q _ _ ⟨ad,((G.grow s1).set i rv).set j (ru.weak aO.fO)⟩⟩⟩
variable {oV:Pos}
theorem qx(i:Nat){aW:List (Option Nat)}{fi:ar->Option Dat}(hN:X.N.Nodup)(hc:X.calm=true)(B:qg X scope cl N' aW)(hi:QF X iter fi)(hg:∀C aL ah ex,QG (dt X scope cl N' C aL ah ex) tg (iQ X.K gt))(ht:∀C aL ah ex,Dq (dt X scope cl N' C aL ah ex) ifs (nj X.K ft))(he:∀C aL ah ex,QF (dt X scope cl N' C aL ah ex) elt fe)(hT:kD gt aW)(zP:X.N[i]?=some x:=by rfl)(hx:Loc X.env.scope x:=by first|exact .inl rfl|exact .inr rfl)(zT:swapsWith (.ListComp elt [⟨tg,iter,ifs,0⟩] scope pos) (some (.Name x pos')) oV.line X.env=pure true:=by rfl)(A0:X.fn x=true\/X.env.scope.names.lookup x=some .local:=by first|exact .inl rfl|exact .inr rfl)(hs:∀x,foldedSetIterable iter X.env x=pure x:=by intro _;rfl):
  fY X (.Assign [.Name x pos'] (.ListComp elt [⟨tg,iter,ifs,0⟩] scope pos) oV) (lV i (ky aW gt ft fe fi)):=⟨bY (vR hc B (qF hi.o) ((λC aL ah ex=>(hg C aL ah ex).o)) ((λC aL ah ex=>(ht C aL ah ex).o)) ((λC aL ah ex=>(he C aL ah ex).o)) hN zP hx zT A0 hs) λD σ H aP=>by
 obtain⟨ah,Av,pn,aF,Γ,fl,⟨ad,G⟩,hf,q⟩:=aP;obtain⟨ds,e1,hf⟩:=ba hf;subst hf;exact BK hT σ H _ ⟨aO Av Γ ad,bj Γ,ds,G.gf,G.j3,e1,λH1 p xs s hp r=>q _ _ ⟨ad,((G.grow s).grow (bM hp _)).set i (.nZ (G.grow s).gf hp r)⟩⟩⟩
theorem C0(ha:QF X a fa)(hb:QF X b fb)(hm:behindInMarks .In b=false:=by with_unfolding_all rfl):
  k9 X (.Compare a [.In] [b] pos) (bS (f2 inD fa fb)):=⟨jW (Gj.or Gh) OR ha.o hb.o hm⟩
theorem dM(ha:QF X a fa)(hb:QF X b fb):
  k9 X (.Compare a [.Is] [b] pos) (bS (f2 pg fa fb)):=⟨jW OP MK ha.o hb.o (ie _)⟩
variable {fs:ar->Option (List Dat)} in
theorem ny(hm:X.mg "list"=none)(ha:kL X (e::es) fs)(hg:Gl X "list":=by rfl)(he:starEach (e::es) X.env=(false,eval e X.env)::starEach es X.env:=by rfl)(dO:(backTo pos (starEach es X.env)).any (·.1)=false:=by rfl):
  QE X (.Call (.Name "list" p) (e::es) [] pos) (kc X.K λρ=>(fs ρ).bind sd):=⟨bp (nA AH hg hm (by decide +kernel) ha.o (by decide) (by decide) he dO) λσ H Q aP=>by
 obtain⟨Av,ρ,ds,hA,hE,hf,q⟩:=aP;obtain⟨as,e1,hf⟩:=bind_some hf;refine⟨Av,ρ,as,hA,hE,e1,λvs H1 s1 r=>?_⟩;unfold sd at hf;split at hf
 ·cases hf;obtain⟨v,rfl,rv⟩:=r.eJ;obtain⟨p,xs,rfl,hq,rs⟩:=rv.g9;exact⟨p,xs,rfl,.inl hq.sq,λl hl=>q H1 l xs s1 hl rs⟩
 ·cases hf;obtain⟨v,rfl,rv⟩:=r.eJ;obtain⟨p,xs,rfl,hq,rs⟩:=rv.fj;exact⟨p,xs,rfl,.inr hq.sq,λl hl=>q H1 l xs s1 hl rs⟩
 ·cases hf⟩
variable {fs:ar->Option (List Dat)} in
theorem gV(hm:X.mg "tuple"=none)(ha:kL X (e::es) fs)(hg:Gl X "tuple":=by rfl)(he:starEach (e::es) X.env=(false,eval e X.env)::starEach es X.env:=by rfl)(dO:(backTo pos (starEach es X.env)).any (·.1)=false:=by rfl):
  QF X (.Call (.Name "tuple" p) (e::es) [] pos) (i7 gO fs):=⟨FZ qa sU hm ha.o hg (by decide +kernel) (by decide) (by decide) he dO⟩
theorem cv{a:Addr}(hm:X.mg x=some (.ref a))(ht:ModT X.K a ds)(hg:Gl X x:=by rfl)(hd:(x==("__debug__" : Str))=false:=by decide):
  QF X (.Name x p) (fC (.tuple ds)):=⟨by
 obtain⟨xs,o,ak,n,h1,h2,h3,h4,h5,h6⟩:=ht;exact bp (ME (v:=.ref a) hg hm rfl hd) λσ H Q ⟨Av,ρ,d,hA,hE,hf,q⟩=>by cases hf;exact q _ H (bg.refl H) (.tup (.inr ⟨o,ak,n,h1,h2,h3,h4,h5⟩) (h6 H Av))⟩
theorem aD(hP:QF X e f):
  QH X e (iL f):=⟨bp hP.o λσ H Q aP=>by
 obtain⟨ah,Av,pn,aF,Γ,ad,d,af,G,hf,q⟩:=aP;unfold iL at hf;split at hf
 ·rename_i d' e1;cases hf;exact⟨aO Av Γ ad,bj Γ,_,G.gf,G.j3,e1,λv H' s r=>q v H' ad (G.grow s) r⟩
 ·obtain⟨d',e1,hf⟩:=bind_some hf;split at hf
  ·rename_i hs;cases hf;exact⟨Av,c7 Γ,_,G.j5.same G.same,G.rh,e1,λv H' s r=>q v H' ad (G.grow s) (r.sc hs)⟩
  ·cases hf⟩
theorem ou(pa:QH X a ha)(pb:QH X b hb):
  QH X (.BinOp a .Add b pos) (h2 kC ha hb):=⟨uJ (uL.or lY) (by
 intro H Av x y dx dy d Q hA rx ry h q;unfold kC at h;split at h
 ·cases h;exact .inl ⟨_,_,rx.cQ,ry.cQ,q _ H (bg.refl H) (.int _)⟩
 ·split at h
  ·rename_i hz;cases h;exact .inr ⟨_,_,rx.iF,ry.iF,hz,q _ H (bg.refl H) (.str _)⟩
  ·cases h
 ·cases h) pa.o pb.o⟩
theorem BZ(pa:QH X a ha)(pb:QH X b hb):
  QH X (.BinOp a .Sub b pos) (h2 DC ha hb):=⟨uJ Cc p7 pa.o pb.o⟩
theorem Mj(pa:QH X a ha)(pb:QH X b hb):
  QH X (.BinOp a .Mult b pos) (h2 jK ha hb):=⟨uJ Cd p7 pa.o pb.o⟩
theorem Mi(hr:cF k X.A)(pa:QH X a ha)(pb:QH X b hb):
  UA X (.Compare a [.Eq] [b] pos) (yk (h2 cM ha hb)):=⟨Mz (E1.or (zu hr.units)) zv pa.o pb.o (ie _)⟩
theorem ot(pa:QH X a ha)(pb:QH X b hb)(hs:wK b:=by exact λ_ _=>rfl):
  QH X (.Subscript a b pos) (h2 bA ha hb):=⟨bp (KI (Ct.or GG) pa.o pb.o hs) (Dz OQ)⟩
theorem aY:
  vq X [] mT:=⟨rY qJ λσ H Q ⟨ah,Av,pn,aF,Γ,ad,d,af,G,hf,q⟩=>by cases hf;exact q _ H ad G .nil⟩
variable {h:HF}
theorem aH(pa:QH X e h)(pr:vq X es hs)(hst:starEach (e::es) X.env=(false,eval e X.env)::starEach es X.env:=by rfl):
  vq X (e::es) (jf h hs):=⟨rY (kS pa.o pr.o hst) λσ H Q aP=>by
 obtain⟨ah,Av,pn,aF,Γ,ad,d,af,G,hf,q⟩:=aP;obtain⟨⟨dx,Γ1⟩,e1,hf⟩:=bind_some hf;obtain⟨⟨ds,iP⟩,e2,hf⟩:=ba hf;cases hf;exact⟨ah,Av,pn,aF,Γ,ad,dx,Γ1,G,e1,λx H1 fJ G1 r1=>⟨ah,Av,pn,(x,dx)::aF,Γ1,fJ,ds,iP,G1.hide r1,e2,λvs H2 qc G2 r2=>q (x::vs) H2 qc G2.qj (.cons (G2.aF (x,dx) mem_cons_self) r2)⟩⟩⟩
theorem BY(pa:vq X es hs){x1}:
  QH X (.Tuple es x1 pos) (Jv hs):=⟨bp (G0 pa.o) λσ H Q aP=>by
 obtain⟨ah,Av,pn,aF,Γ,ad,d,af,G,hf,q⟩:=aP;obtain⟨⟨ds,Γ1⟩,e1,hf⟩:=bind_some hf;split at hf
 ·rename_i hz;cases hf;exact⟨ah,Av,pn,aF,Γ,ad,ds,Γ1,G,e1,λxs H1 fJ G1 r1=>⟨by rw[r1.length];exact hz,λp hp=>q _ _ fJ (G1.grow (bM hp _)) (.pd G1.gf hp r1)⟩⟩
 ·cases hf⟩
theorem Mk(pa:vq X es hs):
  QH X (.List es pos) (Ei hs):=⟨bp (zh pa.o) λσ H Q aP=>by
 obtain⟨ah,Av,pn,aF,Γ,ad,d,af,G,hf,q⟩:=aP;obtain⟨⟨ds,Γ1⟩,e1,hf⟩:=bind_some hf;split at hf
 ·rename_i hz;cases hf;exact⟨ah,Av,pn,aF,Γ,ad,ds,Γ1,G,e1,λxs H1 fJ G1 r1=>⟨by rw[r1.length];exact hz,λp hp=>q _ _ fJ (G1.grow (bM hp _)) (.nZ G1.gf hp r1)⟩⟩
 ·cases hf⟩
theorem yS(D:Dn X.prog X.w X.K X.mg X.base k x ps n F)(hr:cF k X.A)(pa:vq X (e::es) hs)(hg:Gl X x:=by rfl)(jx:(x==("__debug__" : Str))=false:=by decide)(he:starEach (e::es) X.env=(false,eval e X.env)::starEach es X.env:=by rfl)(dO:(backTo pos (starEach es X.env)).any (·.1)=false:=by rfl):
  QH X (.Call (.Name x p) (e::es) [] pos) (Lp n F hs):=⟨by
 obtain⟨f,fd,h1,h2,h3,h4⟩:=D.ex;refine bp (rX h1 hr hg h2 h3 h4 .nil yh pa.o jx he dO) λσ H Q ⟨ah,Av,pn,aF,Γ,ad,d,af,G,hf,q⟩=>?_;obtain⟨⟨ds,Γ1⟩,e1,hf⟩:=bind_some hf;split at hf
 ·rename_i hl;obtain⟨d',e2,hf⟩:=ba hf;cases hf;exact⟨ah,Av,pn,aF,Γ,ad,ds,Γ1,G,e1,λxs H1 fJ G1 r1=>⟨_,ds,_,G1.gf,by rw[append_nil];exact r1,hl,e2,λv H2 s2 r2=>q v H2 fJ (G1.grow s2) r2⟩⟩
 ·cases hf⟩
theorem bK(i:Nat){y:Str}{F:List Dat->List Dat->Option (Dat×List Dat)}(D:fM X.prog X.w X.K X.mg X.base k x ps n F)(hr:cF k X.A)(pa:vq X es hs)(hN:X.N[i]?=some y:=by rfl)(hv:n8 X.env.scope y:=by first|exact Or.inl rfl|exact Or.inr (Or.inl rfl)|exact Or.inr (Or.inr rfl))(hd:(y==("__debug__" : Str))=false:=by decide)(gB:(y==("__classdict__" : Str))=false:=by decide)(hg:Gl X x:=by rfl)(jx:(x==("__debug__" : Str))=false:=by decide)(he:starEach (.Name y p1::es) X.env=(false,eval (.Name y p1) X.env)::starEach es X.env:=by rfl)(dO:(backTo pos (starEach es X.env)).any (·.1)=false:=by rfl):
  QH X (.Call (.Name x p) (.Name y p1::es) [] pos) (pE i n F hs):=⟨by
 obtain⟨f,fd,h1,h2,h3,h4⟩:=D.ex;refine bp (rX h1 hr hg h2 h3 h4 .nil yh (kS (mJ hN hv hd gB) pa.o he) jx he dO) λσ H Q ⟨ah,Av,pn,aF,Γ,ad,d,af,G,hf,q⟩=>?_;unfold pE at hf;split at hf
 ·rename_i Aw oH;obtain⟨⟨us,Γ1⟩,e1,hf⟩:=bind_some hf;dsimp only at hf;split at hf
  ·rename_i ds Le;split at hf
   ·rename_i hl;obtain⟨⟨d',cU⟩,e2,hf⟩:=ba hf;cases hf;obtain⟨NN,g1,g2,g3,g4⟩:=G.own i Aw oH;refine⟨.ref (ad i),g1,ah,Av,pn,aF,Γ,ad,us,Γ1,G,e1,λws H1 fJ G1 r1=>?_⟩;obtain⟨NM,k1,k2,k3,k4⟩:=G1.own i ds Le;have ea:ad i=fJ i:=by rw[g1]at k1;injection k1 with k1;injection k1 with k1;injection k1
    exact⟨aO Av Γ1 fJ,fJ i,ws,NM,ds,us,_,_,by rw[append_nil,ea],G1.gf,.inr ⟨i,_,Le,rfl,rfl⟩,k2,k3,r1,hl,e2,λv H' ys k hn rl rv=>q v H' fJ (G1.lend Le k hn rl) (rv.weak (aO.set_own Le))⟩
   ·cases hf
  ·cases hf
 ·cases hf⟩
variable {fa:Addr}
theorem rR{F:List Dat->List Dat->Option (Dat×List Dat)}(U:nM K x qual st fa fd)(hm:mg x=some (.ref fa))(hB:Binds K fd ps [])(S:gi N ps (bf st))(hn:ps.length=n)(hbody:∀(bF:Value) (A:Around) (outer:List Env) (s:Shared) (H:Hp) (E:XK),cF k (A.deeper (envOfC qual (bf st) s.heap.objs.size fa bF))->iE (jM jj P w K mg base N qual (bf st) fa bF A outer s H E).oB (dj st) g)(hF:∀ds es d cU,es.length+1=n->F ds es=some (d,cU)->runM N g ds es=some (d,cU)):
  fM P w K mg base (k+1) x ps n F:=
 Qp (U:=U) (hm:=hm) (hB:=hB) (S:=S) (hn:=hn) (hbody:=(λa b c d e f g=>(hbody a b c d e f g).o)) (hF:=hF)
theorem dQ(i:Nat)(hN:X.N.Nodup)(pe:QH X e h)(hi:X.N[i]?=some x:=by rfl)(hx:Loc X.env.scope x:=by first|exact .inl rfl|exact .inr rfl)(hs:swapsWith e (some (.Name x pos')) pos.line X.env=pure false:=by rfl)(hf:X.fn x=true\/X.env.scope.names.lookup x=some .local:=by first|exact .inl rfl|exact .inr rfl):
  fY X (.Assign [.Name x pos'] e pos) (uw i h):=⟨bY (qC hN hi hx pe.o hs hf) λD σ H aP=>by
 obtain⟨ah,Av,pn,aF,Γ,fl,⟨ad,G⟩,hf,q⟩:=aP;obtain⟨⟨d,Γ1⟩,e1,hf⟩:=ba hf;subst hf;exact⟨ah,Av,pn,aF,Γ,ad,d,Γ1,G,e1,λv H' iM G' r=>q _ _ ⟨iM,G'.set i r⟩⟩⟩
theorem jU(pe:QH X e h)(hg:QG X tg (iQ X.K gt))(hs:swapsWithSole [tg] e pos.line X.env=pure false:=by rfl)(hw:swappedStores [tg] e X.env=pure none:=by rfl)(h1:(assignEach [tg] X.env).map (·.2)=[assign tg X.env]:=by rfl):
  fY X (.Assign [tg] e pos) (DI gt h):=⟨bY (qE pe.o hg.o hs hw h1) λD σ H aP=>by
 obtain⟨ah,Av,pn,aF,Γ,fl,⟨ad,G⟩,hf,q⟩:=aP;obtain⟨⟨d,Γ1⟩,e1,hf⟩:=bind_some hf;obtain⟨as,e2,hf⟩:=ba hf;subst hf;exact⟨ah,Av,pn,aF,Γ,ad,d,Γ1,G,e1,λv H' iM G' r=>⟨aO Av Γ1 iM,d,as,r,e2,λws hw=>q _ _ ⟨iM,GA.ib hw (λ_ z=>z) G'⟩⟩⟩⟩
theorem fH(pe:QH X e h):
  fY X (.Return (some e) pos) (oX h):=
 ⟨yZ (pe:=pe.o)⟩
variable {ht:aw->Option (Bool×aw)}
theorem IK{a b:List Stmt}(hc:UA X c ht)(pa:iE X a g1)(pb:iE X b g2):
  fY X (.If c a b pos) (tj ht g1 g2):=⟨bY (KD hc.o pa.o pb.o) λD σ H aP=>by
 obtain⟨ah,Av,pn,aF,Γ,fl,⟨ad,G⟩,hf,q⟩:=aP;obtain⟨⟨k,Γ1⟩,e1,hf⟩:=bind_some hf;refine⟨ah,Av,pn,aF,Γ,ad,k,Γ1,G,e1,λH' iM G'=>?_⟩;cases k with
 |true=>rw[if_pos rfl]at hf ⊢;exact⟨ah,Av,pn,aF,Γ1,fl,⟨iM,G'⟩,hf,q⟩
 |false=>rw[if_neg Bool.false_ne_true]at hf ⊢;exact⟨ah,Av,pn,aF,Γ1,fl,⟨iM,G'⟩,hf,q⟩⟩
theorem uG(i:Nat){k:Int}{j2:Nat}(pe:QH X e h)(hN:X.N[i]?=some x:=by rfl)(hv:n8 X.env.scope x:=by first|exact Or.inl rfl|exact Or.inr (Or.inl rfl)|exact Or.inr (Or.inr rfl))(hd:(x==("__debug__" : Str))=false:=by decide)(gB:(x==("__classdict__" : Str))=false:=by decide)(ha:∀v,assign (.Subscript (.Name x p1) (.Constant (.int k) j2 p2) p3) X.env v=(do
   let ov <- holding [v] (eval (.Name x p1) X.env);let iv <- holding [v,ov] (eval (.Constant (.int k) j2 p2) X.env);standAt p3
   holding [v,ov,iv] (setItem ov iv v)
   release [v,ov,iv] []):=by intro _;rfl)(hs:swapsWithSole [.Subscript (.Name x p1) (.Constant (.int k) j2 p2) p3] e pos.line X.env=pure false:=by rfl)(hw:swappedStores [.Subscript (.Name x p1) (.Constant (.int k) j2 p2) p3] e X.env=pure none:=by rfl)(h1:(assignEach [.Subscript (.Name x p1) (.Constant (.int k) j2 p2) p3] X.env).map (·.2)=[assign (.Subscript (.Name x p1) (.Constant (.int k) j2 p2) p3) X.env]:=by rfl):
  fY X (.Assign [.Subscript (.Name x p1) (.Constant (.int k) j2 p2) p3] e pos) (yH i k h):=⟨bY (qE pe.o (ze (mJ hN hv hd gB) G6 set_list ha) hs hw h1) λD σ H aP=>by
 obtain⟨ah,Av,pn,aF,Γ,fl,⟨ad,G⟩,hf,q⟩:=aP;obtain⟨⟨d,Γ1⟩,e1,hf⟩:=bind_some hf;dsimp only at hf;split at hf
 ·rename_i ds hi;obtain⟨j,e2,hf⟩:=ba hf;subst hf;refine⟨ah,Av,pn,aF,Γ,ad,d,Γ1,G,e1,λv H' iM G' r=>?_⟩;obtain⟨xs,g1,g2,g3,g4⟩:=G'.own i ds hi;exact⟨_,g1,_,xs,k,j,rfl,rfl,g2,by rw[g3.length];exact e2,q _ _ ⟨iM,G'.change hi (g3.set r)⟩⟩
 ·cases hf⟩
theorem IP{F:List Dat->Option (List Dat)}{fs:ar->Option (List Dat)}(D:y0 X.prog X.w X.K X.mg X.base k x ps n F)(hr:cF k X.A)(pa:kL X (e::es) fs)(hg:Gl X x:=by rfl)(jx:(x==("__debug__" : Str))=false:=by decide)(he:starEach (e::es) X.env=(false,eval e X.env)::starEach es X.env:=by rfl)(dO:(backTo pos (starEach es X.env)).any (·.1)=false:=by rfl):
  QE X (.Call (.Name x p) (e::es) [] pos) (kc X.K (JC n F fs)):=⟨by
 obtain⟨f,fd,h1,h2,h3,h4⟩:=D.ex;refine bp (rX h1 hr hg h2 h3 h4 .nil yh pa.o jx he dO) λσ H Q ⟨Av,ρ,out,hA,hE,hf,q⟩=>?_;obtain⟨ds,e1,hf⟩:=bind_some hf;split at hf
 ·rename_i hl;exact⟨Av,ρ,ds,hA,hE,e1,λxs H1 s1 r1=>⟨Av,ds,out,hA.same s1,by rw[append_nil];exact r1,hl,hf,λH2 p xs s2 hp r2=>q H2 p xs (s1.trans s2) hp r2⟩⟩
 ·cases hf⟩
theorem Mo{fs:ar->Option (List Dat)}{F:List Dat->Option (List Dat)}(U:nM K x qual st fa fd)(hm:mg x=some (.ref fa))(hB:Binds K fd ps [])(S:gi N ps (bf st))(hn:ps.length=n){ex:Expr}(hb:dj st=[.Return (some ex) px])(hbody:∀(bF:Value) (A:Around) (outer:List Env) (s:Shared) (H:Hp) (E:XK),cF k (A.deeper (envOfC qual (bf st) s.heap.objs.size fa bF))->QE (jM jj P w K mg base N qual (bf st) fa bF A outer s H E).oB ex (kc K fs))(hF:∀ds out,ds.length=n->F ds=some out->fs (c7 (cY N ds))=some out):
  y0 P w K mg base (k+1) x ps n F:=
 Qo (U:=U) (hm:=hm) (hB:=hB) (S:=S) (hn:=hn) (hb:=hb) (hbody:=(λa b c d e f g=>(hbody a b c d e f g).o)) (hF:=hF)
theorem tq(h:QF X iter f):
  sW X tg iter (xA f):=⟨kR (qF h.o) λσ H R aP=>by
 obtain⟨Av,ρ,ds,hA,hE,hf,q⟩:=aP;obtain⟨d,e1,hf⟩:=bind_some hf;refine⟨Av,ρ,d,hA,hE,e1,λx H1 s1 r=>?_⟩;cases d with
 |list cU=>
  cases hf;obtain⟨a,xs,rfl,hq,rs⟩:=r.g9;exact⟨a,rfl,.inl ⟨⟨xs,hq.sq⟩,q _ [_] [_] H1 s1 (.cons r .nil) nB.s⟩⟩
 |tuple cU=>
  cases hf;obtain⟨a,xs,rfl,hq,rs⟩:=r.fj;exact⟨a,rfl,.inr ⟨⟨xs,hq.sq⟩,q _ [_] [_] H1 s1 (.cons r .nil) p4.s⟩⟩
 |_=>cases hf⟩
variable {fs:ar->Option (List Dat)} in
theorem ju(hm:X.mg "range"=none)(ha:kL X [a] fs)(GV:Gl X "range":=by rfl)(hst:starEach [a] X.env=[(false,eval a X.env)]:=by rfl):
  sW X tg (.Call (.Name "range" p) [a] [] pos') (qP jI fs):=⟨kR (qG GV hm ha.o hst) λσ H R aP=>by
 obtain⟨Av,ρ,ds,hA,hE,hf,q⟩:=aP;obtain⟨as,e1,e2⟩:=bind_some hf;refine⟨Av,ρ,as,hA,hE,e1,λvs H1 s1 r=>?_⟩;unfold jI at e2;split at e2
 ·rename_i j;split at e2
  ·rename_i hj;cases e2;obtain⟨v,rfl,rv⟩:=r.eJ;rw[rv.cQ];exact⟨j,rfl,hj.1,hj.2,q _ [.bO] [.none] H1 s1 (.cons .bO .nil) p6.s⟩
  ·cases e2
 ·cases e2⟩
theorem jT(hp:PassesOwn (model X.prog X.w) X.A X.env X.xe)(hc:X.calm=true)(hi:sW X tg iter fi)(hg:QG X tg (iQ X.K gt))(hb:iE X body gb)(hs:∀x,foldedSetIterable iter X.env x=pure x:=by intro _;rfl):
  fY X (.For tg iter body [] pos) (lW gt gb fi):=⟨bY (uI hp hc hi.o hg.o hb.o hs) λD σ H aP=>by
 obtain⟨ah,Av,pn,aF,Γ,fl,⟨ad,G⟩,hf,q⟩:=aP;obtain⟨ds,e1,hf⟩:=bind_some hf;exact⟨aO Av Γ ad,bj Γ,ds,G.gf,G.j3,e1,λJ xs jZ H1 s1 rx ov=>v9 ov (G.grow s1) rx hf q⟩⟩
theorem kj{aW:List (Option Nat)}(hc:X.calm=true)(B:qg X scope cl N' aW)(hi:sW X tg iter fi)(hg:∀C aL ah ex,QG (dt X scope cl N' C aL ah ex) tg (iQ X.K gt))(ht:∀C aL ah ex,Dq (dt X scope cl N' C aL ah ex) ifs (nj X.K ft))(he:∀C aL ah ex,QF (dt X scope cl N' C aL ah ex) elt fe)(hT:kD gt aW)(hs:∀x,foldedSetIterable iter X.env x=pure x:=by intro _;rfl):
  QE X (.ListComp elt [⟨tg,iter,ifs,0⟩] scope pos) (kc X.K (fB aW gt ft fe fi)):=⟨bp (rW hc B hi.o ((λC aL ah ex=>(hg C aL ah ex).o)) ((λC aL ah ex=>(ht C aL ah ex).o)) ((λC aL ah ex=>(he C aL ah ex).o)) hs) (BI hT)⟩
theorem tv{hf:aw->Option (List Dat×aw)}(h:QE X e (F3 X.K hf)):
  QH X e (hL hf):=⟨bp h.o λσ H Q aP=>by
 obtain⟨ah,Av,pn,aF,Γ,ad,d,af,G,hf,q⟩:=aP;obtain⟨⟨ds,Γ1⟩,e1,hf⟩:=ba hf;cases hf;exact⟨ah,Av,pn,aF,Γ,ad,ds,Γ1,G,e1,λH1 p xs fJ G1 hp r=>q _ _ fJ (G1.grow (bM hp _)) (.nZ G1.gf hp r)⟩⟩
theorem xm(i:Nat){fe:HF}(hc:X.calm=true)(B:qg X scope cl N' (some i::cA))(hi:sW X tg iter fi)(hg:∀C aL ah ex,QG (dt X scope cl N' C aL ah ex) tg (iQ X.K gt))(he:∀C aL ah ex,QH (dt X scope cl N' C aL ah ex) elt fe)(hT:kD gt (some i::cA))(hs:∀x,foldedSetIterable iter X.env x=pure x:=by intro _;rfl):
  QE X (.ListComp elt [⟨tg,iter,[],0⟩] scope pos) (F3 X.K (m9 i cA gt fe fi)):=⟨bp (rW hc B hi.o ((λC aL ah ex=>(hg C aL ah ex).o)) (λ_ _ _ _=>rS) ((λC aL ah ex=>(he C aL ah ex).o)) hs) (BJ hT)⟩
variable {fs:ar->Option (List Dat)} in
theorem mI{dY:List Expr}{pt:Pos}(hm:X.mg "zip"=none)(ha:kL X [a,b] fs)(hg:Gl X "zip":=by rfl)(hs:starEach [a,b] X.env=[(false,eval a X.env),(false,eval b X.env)]:=by rfl)(qR:starEach [b] X.env=[(false,eval b X.env)]:=by rfl):
  sW X (.Tuple dY kt pt) (.Call (.Name "zip" p) [a,b] [] pos) (Ea fs):=⟨kR (OG hg hm ha.o hs qR) λσ H R aP=>by
 obtain⟨Av,ρ,ds,hA,hE,hf,q⟩:=aP;obtain⟨as,e1,hf⟩:=bind_some hf;refine⟨Av,ρ,as,hA,hE,e1,λvs H1 s1 r=>?_⟩;match as,hf,r with
 |[d1,d2],hf,r=>
  obtain⟨x,f1,hf⟩:=bind_some hf;obtain⟨y,f2,hf⟩:=ba hf;subst hf;obtain⟨v,u,rfl,rv,ru⟩:=r.fN;obtain⟨k1,a1,rfl,g1⟩:=zJ rv f1;obtain⟨k2,a2,rfl,g2⟩:=zJ ru f2;obtain⟨xs,c1,_⟩:=g1 H1 Av rv;obtain⟨ys,c2,_⟩:=g2 H1 Av ru;refine⟨k1,k2,a1,a2,rfl,⟨xs,c1⟩,⟨ys,c2⟩,q _ [.ref a1,.ref a2] [d1,d2] H1 s1 r λi H iO rr=>?_⟩;obtain⟨v',u',e,FD,WM⟩:=rr.fN;cases e;obtain⟨xs,c1,rx⟩:=g1 H iO FD;obtain⟨ys,c2,ry⟩:=g2 H iO WM;refine⟨λhl=>⟨xs,ys,c1,c2,?_⟩,λdi hd=>?_⟩
  ·rw[(mB (i:=0)).1]at hl;rw[rx.length,ry.length];omega
  ·obtain⟨dx,dy,h1,h2,rfl⟩:=(mB (xs:=x) (ys:=y) (i:=i)).2 di hd;obtain⟨vx,hx,Of⟩:=rx.get h1;obtain⟨vy,hy,WL⟩:=ry.get h2;refine⟨⟨xs,ys,vx,vy,c1,c2,hx,hy⟩,λz H' Q1 hz=>?_⟩;obtain⟨T,x',y',rfl,hT,rfl,hh⟩:=hz;obtain⟨h3,h4⟩:=hh xs ys c1 c2;rw[hx]at h3;rw[hy]at h4;cases h3;cases h4;exact⟨bM hT _,.pd Q1 hT (.cons Of (.cons WL .nil))⟩⟩
theorem xn(hm:X.mg "tuple"=none)(pa:vq X (e::es) hs)(hg:Gl X "tuple":=by rfl)(he:starEach (e::es) X.env=(false,eval e X.env)::starEach es X.env:=by rfl)(dO:(backTo pos (starEach es X.env)).any (·.1)=false:=by rfl):
  QH X (.Call (.Name "tuple" p) (e::es) [] pos) (pF gO hs):=⟨FX qa sU hm pa.o hg (by decide +kernel) (by decide) (by decide) he dO⟩
variable {fs:ar->Option (List Dat)} in
theorem tw(ha:QE X a (kc X.K fs))(hb:QF X b fb):
  QE X (.BinOp a .Mult b pos) (kc X.K (pI fs fb)):=⟨bp (yg ON ha.o hb.o) λσ H Q aP=>by
 obtain⟨Av,ρ,out,hA,hE,hf,q⟩:=aP;obtain⟨ds,e1,hf⟩:=bind_some hf;obtain⟨d,e2,hf⟩:=bind_some hf;split at hf
 ·rename_i k;split at hf
  ·rename_i hk;cases hf;refine⟨Av,ρ,ds,hA,hE,e1,λH1 p xs s1 hp r=>?_⟩;have s2:=bM hp (.lst xs);refine⟨Av,ρ,.int k,hA.same (s1.trans s2),hE.same (s1.trans s2),e2,λy H2 s3 ry=>?_⟩;exact⟨p,k,xs,rfl,ry.cQ,s3 p _ eA,hk.1.1,hk.1.2,by rw[r.length];exact hk.2,λq' hq=>q H2 q' _ (s1.trans (s2.trans s3)) hq ((r.same (s2.trans s3)).rep _)⟩
  ·cases hf
 ·cases hf⟩
theorem p0(i:Nat){aW:List (Option Nat)}(hN:X.N.Nodup)(hc:X.calm=true)(B:qg X scope cl N' aW)(hi:sW X tg iter fi)(hg:∀C aL ah ex,QG (dt X scope cl N' C aL ah ex) tg (iQ X.K gt))(ht:∀C aL ah ex,Dq (dt X scope cl N' C aL ah ex) ifs (nj X.K ft))(he:∀C aL ah ex,QF (dt X scope cl N' C aL ah ex) elt fe)(hT:kD gt aW)(zP:X.N[i]?=some x:=by rfl)(hx:Loc X.env.scope x:=by first|exact .inl rfl|exact .inr rfl)(zT:swapsWith (.ListComp elt [⟨tg,iter,ifs,0⟩] scope pos) (some (.Name x pos')) oV.line X.env=pure true:=by rfl)(A0:X.fn x=true\/X.env.scope.names.lookup x=some .local:=by first|exact .inl rfl|exact .inr rfl)(hs:∀x,foldedSetIterable iter X.env x=pure x:=by intro _;rfl):
  fY X (.Assign [.Name x pos'] (.ListComp elt [⟨tg,iter,ifs,0⟩] scope pos) oV) (lV i (fB aW gt ft fe fi)):=⟨bY (vR hc B hi.o ((λC aL ah ex=>(hg C aL ah ex).o)) ((λC aL ah ex=>(ht C aL ah ex).o)) ((λC aL ah ex=>(he C aL ah ex).o)) hN zP hx zT A0 hs) λD σ H aP=>by
 obtain⟨ah,Av,pn,aF,Γ,fl,⟨ad,G⟩,hf,q⟩:=aP;obtain⟨ds,e1,hf⟩:=ba hf;subst hf;exact BI hT σ H _ ⟨aO Av Γ ad,bj Γ,ds,G.gf,G.j3,e1,λH1 p xs s hp r=>q _ _ ⟨ad,((G.grow s).grow (bM hp _)).set i (.nZ (G.grow s).gf hp r)⟩⟩⟩
variable {fe:HF}
theorem DN(i j:Nat)(hN:X.N.Nodup)(hc:X.calm=true)(B:qg X scope cl N' (some j::cA))(hi:sW X tg iter fi)(hg:∀C aL ah ex,QG (dt X scope cl N' C aL ah ex) tg (iQ X.K gt))(he:∀C aL ah ex,QH (dt X scope cl N' C aL ah ex) elt fe)(hT:kD gt (some j::cA))(zP:X.N[i]?=some x:=by rfl)(hx:Loc X.env.scope x:=by first|exact .inl rfl|exact .inr rfl)(zT:swapsWith (.ListComp elt [⟨tg,iter,[],0⟩] scope pos) (some (.Name x pos')) oV.line X.env=pure true:=by rfl)(A0:X.fn x=true\/X.env.scope.names.lookup x=some .local:=by first|exact .inl rfl|exact .inr rfl)(hs:∀x,foldedSetIterable iter X.env x=pure x:=by intro _;rfl):
  fY X (.Assign [.Name x pos'] (.ListComp elt [⟨tg,iter,[],0⟩] scope pos) oV) (yI i (m9 j cA gt fe fi)):=⟨bY (vR hc B hi.o ((λC aL ah ex=>(hg C aL ah ex).o)) (λ_ _ _ _=>rS) ((λC aL ah ex=>(he C aL ah ex).o)) hN zP hx zT A0 hs) λD σ H aP=>by
 obtain⟨ah,Av,pn,aF,Γ,fl,⟨ad,G⟩,hf,q⟩:=aP;obtain⟨⟨ds,Γ1⟩,e1,hf⟩:=ba hf;subst hf;exact BJ hT σ H _ ⟨ah,Av,pn,aF,Γ,ad,ds,Γ1,G,e1,λH1 p xs fJ G1 hp r=>q _ _ ⟨fJ,(G1.grow (bM hp _)).set i (.nZ G1.gf hp r)⟩⟩⟩
theorem Oy(U:nM K x qual st fa fd)(S:gi N ps (bf st))(hn:ps.length=n)(hbody:∀(bF:Value) (A:Around) (outer:List Env) (s:Shared) (H:Hp) (E:XK),cF k (A.deeper (envOfC qual (bf st) s.heap.objs.size fa bF))->iE (jM jj P w K mg base N qual (bf st) fa bF A outer s H E).oB (dj st) g)(hF:∀ds d,ds.length=n->F ds=some d->jG N g ds=some d):gJ P w K mg base jj (k+1) fa fd ps (F8 K n F):=by
 have dO:ps.length<=N.length:=by have:=congrArg List.length S.pre;rw[length_take]at this;omega
 refine U.ok S (λvs H Q E h=>?_) (λbF A outer s H vs Q E hr h=>?_)
 ·obtain⟨Av,ds,d,_,r,hl,_⟩:=h;rw[r.length,hl,hn]
 ·obtain⟨Av,ds,d,hA,r,hl,hd,q⟩:=h;have dR:=hF ds d hl hd;unfold jG at dR;refine⟨_,(hbody bF A outer s H E hr).o,?_⟩;cases hg:g (cY N ds)with
  |none=>rw[hg]at dR;cases dR
  |some fl=>
   refine⟨H,Av,none,[],cY N ds,fl,tO hA r (by omega),hg,?_⟩;rw[hg]at dR;cases fl with
   |nx Γ=>cases dR;exact λbH H' ⟨ad,G⟩=>q _ H' G.same .bO
   |rt d'=>cases dR;exact λv H' s r=>q v H' s r
   |bk Γ=>cases dR
   |ct Γ=>cases dR
   |rm d' Γ=>cases dR
open PySem PySem.Spec PyProof.Rows L2
open PySem.W (Dat kqdOk)
def uv:Dat->Option Int->Option Int->Option Dat
 | .list ds,lo,hi=>some (.list (cutD ds lo hi))
 | .tuple ds,lo,hi=>if ¬(HT.cc ds.length 0 lo=0/\HT.cc ds.length ds.length hi=ds.length)then some (.tuple (cutD ds lo hi))else none
 |_,_,_=>none
def pH (f:ar->Option Dat) (fl fh:ar->Option (Option Int)):ar->Option Dat:=λρ=>(f ρ).bind λd=>(fl ρ).bind λl=>(fh ρ).bind λh=>uv d l h
theorem FY{lo hi:Option Expr}{fl fh:ar->Option (Option Int)}(h:PF X e f)(hl:UI X lo fl)(hh:UI X hi fh):PF X (.Subscript e (.Slice lo hi none p2) pos) (pH f fl fh):=bp (J1 (Ma.or O6) h hl hh) λσ H Q aP=>by
 obtain⟨Av,ρ,d,hA,hE,hf,q⟩:=aP;obtain⟨dx,e1,hf⟩:=bind_some hf;obtain⟨l,e2,hf⟩:=bind_some hf;obtain⟨u,e3,hf⟩:=bind_some hf;refine⟨Av,ρ,_,hA,hE,e1,λx H1 s1 r1=>⟨Av,ρ,l,hA.same s1,hE.same s1,e2,λH2 s2=>⟨Av,ρ,u,hA.same (s1.trans s2),hE.same (s1.trans s2),e3,λH3 s3=>?_⟩⟩⟩;have sa:=s1.trans (s2.trans s3);unfold uv at hf;split at hf
 ·cases hf;obtain⟨a,xs,rfl,hq,rs⟩:=(r1.same (s2.trans s3)).g9;refine .inl ⟨a,xs,rfl,hq.sq,λp hp=>q _ _ (sa.trans (bM hp _)) (.nZ (hA.same sa) hp ?_)⟩;unfold rj cutD;rw[rs.length];exact(rs.drop _).take _
 ·split at hf
  ·rename_i hw;cases hf;obtain⟨a,xs,rfl,hq,rs⟩:=(r1.same (s2.trans s3)).fj;refine .inr ⟨a,xs,rfl,hq.sq,by rw[rs.length];exact hw,λp hp=>q _ _ (sa.trans (bM hp _)) (.pd (hA.same sa) hp ?_)⟩;unfold rj cutD;rw[rs.length];exact(rs.drop _).take _
  ·cases hf
 ·cases hf
theorem hG{lo hi:Option Expr}{fl fh:ar->Option (Option Int)}(h:QF X e f)(hl:LQ X lo fl)(hh:LQ X hi fh):QF X (.Subscript e (.Slice lo hi none p2) pos) (pH f fl fh):=⟨FY h.o hl.o hh.o⟩
def Kz (K:Fg):R2:=λx y H Q=>∃l b xs zs,x=.ref l/\y=.ref b/\iN K H l xs/\iN K H b zs/\xs.length+zs.length<=sizeLine/\(xs=[]->Q (.ref b) H)/\(xs≠[]->zs=[]->Q (.ref l) H)/\(xs≠[]->zs≠[]->∀p,H p=none->Q (.ref p) (upd H p (.tup (xs++zs))))
theorem Ce:dS X (binaryOp .Add) (Kz X.K):=by
 intro pins s σ H x y v u Q I rx ry h;obtain⟨l,b,xs,zs,rfl,rfl,hH,hB,hz,q0,q1,q2⟩:=h;cases rx;cases ry;obtain⟨ak,r,p1,_⟩:=I.tuple hH;obtain⟨jl,r2,p2,_⟩:=I.tuple hB;obtain⟨⟨cls,dd,data,sl⟩,ho,hc,n,hd⟩:=p1;obtain⟨⟨Wi,Hz,data2,Fy⟩,nH,A5,n2,hd2⟩:=p2;simp only at hc hd A5 hd2;subst hc hd A5 hd2;have h1:=r.length;have h2:=r2.length;have e:ak.toArray++jl.toArray=(ak++jl).toArray:=by simp
 have nf:=PySem.noFill_tuple_add;have sa:=PySem.seq_tuple_add;by_cases hv:ak=[]
 ·have hx:xs=[]:=r.mn.mp hv;exact concat_meets ⟨_,ho,rfl⟩ ⟨_,nH,rfl⟩ nf sa F.slot_tuple_add F.entry_tuple_add (F.args_tuple_add_2 _ _) (tuple_addW0 l b ak.toArray jl.toArray n n2 dd Hz sl Fy (by simp[hv])) ⟨ho,nH,⟨.ref b,H,I,rfl,q0 hx⟩⟩
 ·have hx:xs≠[]:=λz=>hv (r.mn.mpr z);by_cases hw:jl=[]
  ·have hy:zs=[]:=r2.mn.mp hw;exact concat_meets ⟨_,ho,rfl⟩ ⟨_,nH,rfl⟩ nf sa F.slot_tuple_add F.entry_tuple_add (F.args_tuple_add_2 _ _) (tuple_addW1 l b ak.toArray jl.toArray n n2 dd Hz sl Fy (by simpa using hv) (by simp[hw])) ⟨ho,nH,⟨.ref l,H,I,rfl,q1 hx hy⟩⟩
  ·have hy:zs≠[]:=λz=>hw (r2.mn.mpr z);refine concat_meets ⟨_,ho,rfl⟩ ⟨_,nH,rfl⟩ nf sa F.slot_tuple_add F.entry_tuple_add (F.args_tuple_add_2 _ _) (tuple_addW2 l b ak.toArray jl.toArray n n2 dd Hz sl Fy (by simpa using hv) (by simpa using hw) (by rw[size_toArray,size_toArray];omega)) ⟨ho,nH,?_⟩;rw[e];refine⟨.ref s.heap.objs.size,upd H s.heap.objs.size (.tup (xs++zs)),I.laid (t':=s.toks) (λb u e=>get?_push_of_some _ e) (le_refl _) ?_,rfl,q2 hx hy _ I.fresh⟩;exact⟨by rw[length_append];exact hz,_,r.append r2,⟨_,get?_push_size _ rfl,rfl,_,rfl⟩⟩
def jN:Dat->Dat->Option Dat
 | .list xs,.list ys=>if xs.length+ys.length<=sizeLine then some (.list (xs++ys))else none
 | .tuple xs,.tuple ys=>if xs.length+ys.length<=sizeLine then some (.tuple (xs++ys))else none
 |x,y=>kC x y
theorem zw:lU X.K (λx y H Q=>(KA X.K x y H Q\/Kz X.K x y H Q)\/((∃i j,x=.int i/\y=.int j/\Q (.int (i+j)) H)\/∃i j,x=.str i/\y=.str j/\i.length+j.length<=sizeLine/\Q (.str (i++j)) H)) jN:=by
 intro H Av x y dx dy d Q hA rx ry h q;unfold jN at h;split at h
 ·split at h
  ·rename_i hz;cases h;obtain⟨l,xs,rfl,hq,rs⟩:=rx.g9;obtain⟨m,ys,rfl,zW,uB⟩:=ry.g9;exact .inl (.inl ⟨l,m,xs,ys,rfl,rfl,hq.sq,zW.sq,by rw[rs.length,uB.length];exact hz,λp hp=>q _ _ (bM hp _) (.nZ hA hp (rs.append uB))⟩)
  ·cases h
 ·split at h
  ·rename_i hz;cases h;obtain⟨l,xs,rfl,hq,rs⟩:=rx.fj;obtain⟨m,ys,rfl,zW,uB⟩:=ry.fj;refine .inl (.inr ⟨l,m,xs,ys,rfl,rfl,hq.sq,zW.sq,by rw[rs.length,uB.length];exact hz,λe=>?_,λ_ e=>?_,λ_ _ p hp=>q _ _ (bM hp _) (.pd hA hp (rs.append uB))⟩)
   ·subst e;cases rs;exact q _ H (bg.refl H) (.tup zW uB)
   ·subst e;cases uB;rw[append_nil]at q;exact q _ H (bg.refl H) (.tup hq rs)
  ·cases h
 ·unfold kC at h;split at h
  ·cases h;exact .inr (.inl ⟨_,_,rx.cQ,ry.cQ,q _ H (bg.refl H) (.int _)⟩)
  ·split at h
   ·rename_i hz;cases h;exact .inr (.inr ⟨_,_,rx.iF,ry.iF,hz,q _ H (bg.refl H) (.str _)⟩)
   ·cases h
  ·cases h
variable {fa:ar->Option Dat}
theorem iU(pa:QF X a fa)(pb:QF X b fb):QF X (.BinOp a .Add b pos) (f2 jN fa fb):=⟨lu ((vS.or Ce).or (uL.or lY)) zw pa.o pb.o⟩
theorem IM(pa:QH X a ha)(pb:QH X b hb):QH X (.BinOp a .Add b pos) (h2 jN ha hb):=⟨uJ ((vS.or Ce).or (uL.or lY)) zw pa.o pb.o⟩
open PySem PySem.Spec PyProof.Rows L2
open PySem.W (Dat kqdOk)
def Ar (h:Heap) (l:Addr):Heap:=h.push {cls:=.type "list_iterator",data:=.fields #[.ref l,.int 0 0]}
theorem Hq(l:Addr)(ak:Array Value):Meets (Builtin.«enumerate.__new__» ⟨[.type "enumerate",.ref l],[]⟩) (λ_ R s=>s.heap.IsList l ak/\R (.ok (.ret (.ref (Ar s.heap l).objs.size))) {s with heap:=(Ar s.heap l).push {cls:=.type "enumerate",data:=.fields #[.none,.bool false,.ref s.heap.objs.size,rawInt 0,.none,.none]}}):=
 .of_wp λprog w A R s h=>by
  obtain⟨hp,g,d,tk,os⟩:=s;obtain⟨c1,h⟩:=h;have Jn:=sub_enumerate;have e1:IsList (Shared.heap ⟨hp,g,d,tk,os⟩) l ak:=c1;wp_walk using wpAny_pyIter_list e1
  refine wpAny_stack_any λst=>wpAny_pure ?_;split
  ·rename_i c _ _ _ _ _;cases(c==Value.type "enumerate")<;>(wp_walk using wpAny_pyIter_list e1;exact⟨_,rfl,h⟩)
  ·wp_walk using wpAny_pyIter_list e1
   exact⟨_,rfl,h⟩
theorem Et{s:Shared}{l:Addr}(c1:s.heap.IsList l ak)(h:∀h' e it,e≠it->IsEnum h' e it 0 .none->h'.IsListIter it l 0->(∀b o,s.heap.get? b=some o->h'.get? b=some o)->(∀b∈[e,it],s.heap.objs.size<=b)->Q (.ref e) {s with heap:=h'}):
  wpAny (model prog w) A (call (.type "enumerate") [.ref l]) Q E s:=by
 refine callType_new F.called_enumerate (by decide) (F.typeCall_enumerate_1 _) (F.newCall_enumerate_1 _) (λobj=>F.args_object_init_2 obj _) F.entry_enumerate_new (Hq l ak) ⟨c1,?_⟩;have y1:(Ar s.heap l).objs.size=s.heap.objs.size+1:=by unfold Ar;rw[size_push]
 have f2:((Ar s.heap l).push {cls:=.type "enumerate",data:=.fields #[.none,.bool false,.ref s.heap.objs.size,rawInt 0,.none,.none]}).get? (Ar s.heap l).objs.size=some _:=get?_push_size _ rfl;have f1:((Ar s.heap l).push {cls:=.type "enumerate",data:=.fields #[.none,.bool false,.ref s.heap.objs.size,rawInt 0,.none,.none]}).get? s.heap.objs.size=some _:=get?_push_of_some _ (get?_push_size _ rfl);refine(?_:_/\_);refine⟨⟨_,f2,rfl⟩,h _ _ s.heap.objs.size (by rw[y1];exact Nat.succ_ne_self _) f2 ⟨_,f1,rfl,rfl⟩ (λb o e=>get?_push_of_some _ (get?_push_of_some _ e)) λb hb=>?_⟩;simp only[mem_cons,not_mem_nil,or_false]at hb;rcases hb with e|e
 ·rw[e,y1];exact Nat.le_succ _
 ·rw[e];exact le_refl _
def UT (K:Fg) (a:Addr):It:=
 ⟨λi H=>∃xs x,fK K H a xs/\xs[i]?=some x,
  λi H v H'=>∃T x,v=.ref T/\H T=none/\H'=upd H T (.tup [.int i,x])/\∀xs,fK K H a xs->xs[i]?=some x,
  λi H=>∃xs,fK K H a xs/\xs.length<=i⟩
theorem EZ{dY:List Expr}{pt:Pos}{a e:Addr}(ne:e≠it):
  Turn P w K (.Tuple dY kt pt) (UT K a) [e,it] e (λi h=>(∃old,IsEnum h e it (i:Int) old)/\h.IsListIter it a i) where
 mem:=mem_cons_self
 obj:=λi h st b hb=>by
  obtain⟨⟨old,Z⟩,o,ho,_,hd⟩:=st;simp only[mem_cons,not_mem_nil,or_false]at hb;rcases hb with q|q
  ·rw[q];exact⟨_,Z,λv z=>nomatch z⟩
  ·rw[q];exact⟨o,ho,λv z=>by rw[hd]at z;cases z⟩
 keep:=λi h h' st k=>by
  obtain⟨⟨old,Z⟩,o,ho,r⟩:=st;exact⟨⟨old,k e (by simp) _ Z⟩,o,k it (by simp) _ ho,r⟩
 item:=by
  intro X hP hw hK hc i pins s σ H E I hf st hg;subst hP hw hK;obtain⟨⟨old,Z⟩,w1⟩:=st;obtain⟨xs,x,c1,hx⟩:=hg;obtain⟨ak,r1,p1,_⟩:=I.list c1;obtain⟨ux,Pz,rx⟩:=r1.get hx;have lt:∀b∈[e,it],b<s.heap.objs.size:=λb hb=>by
   simp only[mem_cons,not_mem_nil,or_false]at hb;rcases hb with q|q
   ·rw[q];exact lt_size Z
   ·rw[q];obtain⟨o,ho,_⟩:=w1;exact lt_size ho
  refine wpAny_pyNext_enum_item Z w1 p1.isList (x:=ux) (by simpa using Pz) ne λg b1 b2 b3 b4 b5=>⟨_,rfl,?_⟩;refine wpAny_letOwnedTupleGo_enum (s:={s with heap:=g,toks:=s.toks+1}) b1 λg' b6 b7=>?_;have In:Inv X pins σ (upd H s.heap.objs.size (.tup [.int i,x])) {s with heap:=s.heap.push {cls:=.type "tuple",data:=.seq #[.int i s.toks,ux]},toks:=s.toks+1}:=
   I.laid (t':=s.toks+1) (λb u e=>get?_push_of_some _ e) (le_refl _) ⟨by show 2<=sizeLine;decide,[.int i s.toks,ux],.cons ⟨_,rfl⟩ (.cons rx .nil),⟨_,get?_push_size _ rfl,rfl,_,rfl⟩⟩
  have uZ:∀b∈[e,it],(upd H s.heap.objs.size (.tup [.int i,x])) b=none:=λb hb=>by
   rw[bC (ne_of_lt (lt b hb))];exact(hf b hb).1
  have I3:Inv X pins σ (upd H s.heap.objs.size (.tup [.int i,x])) {s with heap:=g',toks:=s.toks+1}:=rN (s:={s with heap:=s.heap.push {cls:=.type "tuple",data:=.seq #[.int i s.toks,ux]},toks:=s.toks+1}) (h':=g') (t':=s.toks+1) (ch:=[e,it]) In (λb o hb q=>by
   simp only[mem_cons,not_mem_nil,or_false,not_or]at hb;refine b7.extBut _ _ hb.1 ?_;rcases Heap.get?_push_cases (show(s.heap.push {cls:=.type "tuple",data:=.seq #[.int i s.toks,ux]}).get? b=some o from q)with⟨e1,e2⟩|e1
   ·rw[e1,e2];exact b3
   ·exact b5 b o hb.1 hb.2 e1) λb hb=>⟨uZ b hb,(hf b hb).2⟩
  refine⟨.ref s.heap.objs.size,upd H s.heap.objs.size (.tup [.int i,x]),I3,rfl,⟨_,x,rfl,I.bx.fresh (le_refl _),rfl,λys d1=>?_⟩,⟨⟨_,b6⟩,?_⟩,uZ⟩
  ·rw[I.tI d1 c1];exact hx
  ·obtain⟨o,ho,r⟩:=b2;exact⟨o,b7.extBut _ _ ne.symm ho,r⟩
 done:=by
  intro X hP hw hK hc i pins s σ H E I hf st hg;subst hP hw hK;obtain⟨⟨old,Z⟩,w1⟩:=st;obtain⟨xs,c1,hl⟩:=hg;obtain⟨ak,r1,p1,_⟩:=I.list c1;have l1:=r1.length;refine wpAny_pyNext_enum_end (I.ok.hd hc) Z w1 p1.isList (by simp;omega) λg k=>⟨rfl,?_⟩;exact rN (h':=g) (t':=s.toks) (ch:=[e,it]) I (λb o hb q=>by
   simp only[mem_cons,not_mem_nil,or_false,not_or]at hb;exact k b o hb.2 q) hf
 self:=λA i s Q E st h=>wpAny_pyIter_enum st.1.choose_spec h
def Sn (K:Fg) (ta:TA):TI:=λσ H R=>ta σ H λvs H1=>∃a1,vs=[.ref a1]/\(∃xs,fK K H1 a1 xs)/\R (UT K a1) H1
theorem Mx{dY:List Expr}{pt:Pos}(hg:Gl X "enumerate")(hm:X.mg "enumerate"=none)(ha:PA X [a] ta)(hs:starEach [a] X.env=[(false,eval a X.env)]:=by rfl):
  PI X (.Tuple dY kt pt) (.Call (.Name "enumerate" p) [a] [] pos) (Sn X.K ta):=by
 intro pins s σ H R I h;refine Call_ (mN I hg hm boot_enumerate (PyProof.Rows.callWith_type1 (cq (ha pos pins s σ H _ I h) λus s1 ⟨vs,H1,I1,r1,q1⟩=>?_) (by rw[hs];rfl) (by rfl)));obtain⟨a1,e,⟨xs,c1⟩,q⟩:=q1;subst e;cases r1 with
 |cons r rr=>
  cases rr;cases r;obtain⟨E8,_,p1,_⟩:=I1.list c1;exact Et p1.isList λh' e it ne Z w1 kk new=>wpAny_pyIter_enum Z ⟨e,[e,it],_,_,H1,rfl,I1.kept (t':=s1.toks) kk,EZ ne,⟨⟨_,Z⟩,w1⟩,λb hb=>I1.we (new b hb) (I1.bx.fresh (new b hb)),q⟩
def kz:Nat->List Dat->List Dat
 |_,[]=>[]
 |i,x::xs=>.tuple [.int i,x]::kz (i+1) xs
variable {fs:ar->Option (List Dat)} in
def qQ (fs:ar->Option (List Dat)):ar->Option (List Dat):=λρ=>(fs ρ).bind λds=>match ds with
 |[.list xs]=>some (kz 0 xs)
 |_=>none
theorem xN:∀(xs:List Dat) (i:Nat),(kz i xs).length=xs.length
 |[],_=>rfl
 |x::xs,i=>congrArg (· + 1) (xN xs (i+1))
theorem xO:∀{xs:List Dat} {k i:Nat} {d:Dat},(kz k xs)[i]?=some d->∃x,xs[i]?=some x/\d=.tuple [.int ((k+i:Nat):Int),x]
 |[],k,i,d,h=>by simp[kz]at h
 |x::xs,k,0,d,h=>by simp[kz]at h;exact⟨x,rfl,h.symm⟩
 |x::xs,k,i+1,d,h=>by
  obtain⟨y,h1,h2⟩:=xO (xs:=xs) (k:=k+1) (i:=i) (by simpa [kz]using h);exact⟨y,by simpa using h1,by rw[h2,show k+1+i=k+(i+1) by omega]⟩
variable {fs:ar->Option (List Dat)} in
theorem IX{dY:List Expr}{pt:Pos}(hm:X.mg "enumerate"=none)(ha:LR X [a] fs)(hg:Gl X "enumerate":=by rfl)(hs:starEach [a] X.env=[(false,eval a X.env)]:=by rfl):
  UH X (.Tuple dY kt pt) (.Call (.Name "enumerate" p) [a] [] pos) (qQ fs):=kR (Mx hg hm ha hs) λσ H R aP=>by
 obtain⟨Av,ρ,ds,hA,hE,hf,q⟩:=aP;obtain⟨as,e1,hf⟩:=bind_some hf;refine⟨Av,ρ,as,hA,hE,e1,λvs H1 s1 r=>?_⟩;match as,hf,r with
 |[.list x],hf,r=>
  cases hf;obtain⟨v,rfl,rv⟩:=r.eJ;obtain⟨a1,xs,rfl,c1,_⟩:=rv.g9;refine⟨a1,rfl,⟨xs,c1.sq⟩,q _ [.ref a1] [.list x] H1 s1 r λi H iO rr=>?_⟩;obtain⟨v',e,FD⟩:=rr.eJ;cases e;obtain⟨_,xs,e,c1,rx⟩:=FD.g9;cases e;refine⟨λhl=>⟨xs,c1.sq,?_⟩,λdi hd=>?_⟩
  ·rw[xN]at hl;rw[rx.length];exact hl
  ·obtain⟨dx,h1,rfl⟩:=xO hd;obtain⟨vx,hx,Of⟩:=rx.get h1;refine⟨⟨xs,vx,c1.sq,hx⟩,λz H' Q1 hz=>?_⟩;obtain⟨T,x',rfl,hT,rfl,hh⟩:=hz;have h3:=hh xs c1.sq;rw[hx]at h3;cases h3;rw[zero_add];exact⟨bM hT _,.pd Q1 hT (.cons (.int _) (.cons Of .nil))⟩
variable {fs:ar->Option (List Dat)} in
theorem qy{dY:List Expr}{pt:Pos}(hm:X.mg "enumerate"=none)(ha:kL X [a] fs)(hg:Gl X "enumerate":=by rfl)(hs:starEach [a] X.env=[(false,eval a X.env)]:=by rfl):
  sW X (.Tuple dY kt pt) (.Call (.Name "enumerate" p) [a] [] pos) (qQ fs):=⟨IX hm ha.o hg hs⟩
open PySem PySem.Spec PyProof.Rows L2
open PySem.W (Dat kqdOk)
def LV (hi:Int) (n:Nat):It:=⟨λi _=>i<n,λi H x H'=>H'=H/\x=.int (hi-i),λi _=>n<=i⟩
theorem F0(it:Addr)(hi:Int)(n:Nat):Turn P w K tg (LV hi n) [it] it (λi h=>IsRangeIter h it (hi+(i:Nat)*(-1)) ((n:Int)-(i:Nat)) (-1)) where
 mem:=by simp
 obj:=λi h st b hb=>by
  have q:b=it:=by simpa using hb
  rw[q];exact⟨_,st,λv z=>by
   have z2:Data.fields _=Data.cell v:=z;cases z2⟩
 keep:=λi h h' st k=>k it (by simp) _ st
 item:=by
  intro X hP hw hK hc i pins s σ H E I hf st hg;subst hP hw hK;obtain⟨f0,f1,f2,f3,f4,f5⟩:=hf it (by simp);refine wpAny_pyNext_range_item st (by have:i<n:=hg;omega) λg b1 b2=>?_;have I1:Inv X pins σ H {s with heap:=g,toks:=s.toks+1}:=I.turned (λb o hb e=>b2.extBut b o hb e) f0 f1 f3 f4 f5;have b3:IsRangeIter g it (hi+((i+1:Nat):Int)*(-1)) ((n:Int)-((i+1:Nat):Int)) (-1):=by
   have e1:hi+((i+1:Nat):Int)*(-1)=hi+(i:Int)*(-1)+(-1):=by omega
   have e2:(n:Int)-((i+1:Nat):Int)=(n:Int)-(i:Int)-1:=by omega
   rw[e1,e2];exact b1
  refine⟨_,rfl,ym (s:={s with heap:=g,toks:=s.toks+1}) (n:="range_iterator") b1 rfl rfl (by decide) ⟨.int (hi-i),H,I1,⟨s.toks,?_⟩,⟨rfl,rfl⟩,b3,λb hb=>(hf b hb).1⟩⟩;rw[show hi+(i:Int)*(-1)=hi-i by omega]
 done:=by
  intro X hP hw hK hc i pins s σ H E I hf st hg;subst hP hw hK;obtain⟨f0,f1,f2,f3,f4,f5⟩:=hf it (by simp);exact wpAny_pyNext_range_end (I.ok.hd hc) st (by have:n<=i:=hg;omega) λg eb=>⟨rfl,I.turned (t':=s.toks) (λb o hb e=>eb b o hb e) f0 f1 f3 f4 f5⟩
 self:=λ_ _ _ _ _ st h=>wpAny_pyIter_rangeiter st h
theorem xg(a b:Int):Builtin.Range.rangeSize a b (-1)=((a-b).toNat:Int):=by
 unfold Builtin.Range.rangeSize;rw[if_neg (by decide)];split
 ·rw[show(- (-1:Int))=1 by decide,Int.ediv_one];omega
 ·omega
variable {hi:Int}
theorem small_down{lo:Int}(h1: -(2^62)<=hi)(h2:hi<2^62)(h3: -(2^62)<=lo)(h4:lo<2^62):Builtin.Range.small hi lo (-1)=true:=by
 unfold Builtin.Range.small;rw[xg];simp only[Builtin.Range.rangeFitsLong,and_eq_true,or_eq_true,decide_eq_true_eq,beq_iff_eq,show ¬(-1:Int)>0 by decide,if_false];omega
theorem FL{σ:L2.St}{s:Shared}{R:It->Hp->Prop}{lo:Int}{t u v:Tok}{tk:Nat}(I:Inv X pins σ H s)(h1: -(2^62)<=hi)(h2:hi<2^62)(h3: -(2^62)<=lo)(h4:lo<2^62)(q:R (LV hi (hi-lo).toNat) H):wpAny (model X.prog X.w) X.A (pyIter (.ref s.heap.objs.size)) (Rm X pins σ tg R) E {s with heap:=s.heap.push {cls:=.type "range",data:=.fields #[.int hi t,.int lo u,.int (-1) v]},toks:=tk}:=by
 refine wpAny_pyIter_range (IsRange.new ..) (small_down h1 h2 h3 h4) ?_;generalize ho:({cls:=.type "range",data:=.fields #[.int hi t,.int lo u,.int (-1) v]}:Obj)=o;have I1:Inv X pins σ H {s with heap:=s.heap.push o,toks:=tk}:=I.kept λb o e=>get?_push_of_some _ e;refine⟨(s.heap.push o).objs.size,[(s.heap.push o).objs.size],_,_,H,rfl,I1.kept (t':=tk) λb o e=>get?_push_of_some _ e,F0 _ hi (hi-lo).toNat,?_,λb hb=>?_,q⟩
 ·have e1:hi+((0:Nat):Int)*(-1)=hi:=by simp
  have e2:(((hi-lo).toNat:Nat):Int)-((0:Nat):Int)=Builtin.Range.rangeSize hi lo (-1):=by rw[xg];omega
  show IsRangeIter _ _ (hi+((0:Nat):Int)*(-1)) ((((hi-lo).toNat:Nat):Int)-((0:Nat):Int)) (-1);rw[e1,e2];exact get?_push_size _ rfl
 ·have e:b=(s.heap.push o).objs.size:=by simpa using hb
  rw[e];exact I1.we (le_refl _) (I1.bx.fresh (le_refl _))
def So (ta:TA):TI:=λσ H R=>ta σ H λvs H1=>∃i j:Int,vs=[.int i,.int j,.int (-1)]/\(-(2^62)<=i/\i<2^62/\-(2^62)<=j/\j<2^62)/\R (LV i (i-j).toNat) H1
theorem My(hg:Gl X "range")(hm:X.mg "range"=none)(ha:PA X [a,b,c] ta)(hs:starEach [a,b,c] X.env=[(false,eval a X.env),(false,eval b X.env),(false,eval c X.env)]:=by rfl)(qR:starEach [b,c] X.env=[(false,eval b X.env),(false,eval c X.env)]:=by rfl):
  PI X tg (.Call (.Name "range" p) [a,b,c] [] pos) (So ta):=by
 intro pins s σ H R I h;refine Call_ (mN I hg hm boot_range (PyProof.Rows.callWith_type1 (cq (ha pos pins s σ H _ I h) λus s1 ⟨vs,H1,I1,r1,q1⟩=>?_) (by rw[hs,qR]) (by rw[qR];rfl)));obtain⟨i,j,e,⟨q1,q2,q3,q4⟩,q⟩:=q1;subst e;cases r1 with
 |cons r rr=>
  cases rr with
  |cons r' rr=>
   cases rr with
   |cons WQ rr=>
    cases rr;obtain⟨t,rfl⟩:=r;obtain⟨t',rfl⟩:=r';obtain⟨t'',rfl⟩:=WQ;exact call_range_3 (by decide) (FL I1 q1 q2 q3 q4 q) (.inl (PyProof.noPylong_of_log2 (by decide +kernel)))
def j8 (hi:Int) (n:Nat):List Dat:=(List.range n).map fun(i:Nat)=>Dat.int (hi-(i:Int))
def DK:List Dat->Option (List Dat)
 |[.int i,.int j,.int k]=>if k=-1/\(-(2^62)<=i/\i<2^62)/\(-(2^62)<=j/\j<2^62)then some (j8 i (i-j).toNat)else none
 |_=>none
theorem Gf:Over K (LV hi n) .bO .none (j8 hi n):=by
 intro i H Av _;refine⟨λh=>?_,λdi hd=>?_⟩
 ·have:(j8 hi n).length=n:=by unfold j8;rw[length_map,length_range]
  show n<=i;omega
 ·unfold j8 at hd;rw[getElem?_map]at hd;cases e:(List.range n)[i]? with
  |none=>rw[e]at hd;cases hd
  |some k=>
   rw[e]at hd;cases hd;obtain⟨hl,e2⟩:=List.getElem?_eq_some_iff.mp e;rw[length_range]at hl;rw[List.getElem_range]at e2;subst e2;refine⟨hl,λy H' hy=>?_⟩;obtain⟨e1,e3⟩:=hy;subst e3;exact⟨e1,.int _⟩
theorem az.F2{e g:Dat}(h:az K H Av vs [d,e,g]):∃v u t,vs=[v,u,t]/\aU K H Av v d/\aU K H Av u e/\aU K H Av t g:=by
 cases h with|cons a r=>obtain⟨u,t,rfl,b,c⟩:=r.fN;exact⟨_,u,t,rfl,a,b,c⟩
variable {fs:ar->Option (List Dat)} in
theorem IY(hm:X.mg "range"=none)(ha:LR X [a,b,c] fs)(hg:Gl X "range":=by rfl)(hs:starEach [a,b,c] X.env=[(false,eval a X.env),(false,eval b X.env),(false,eval c X.env)]:=by rfl)(qR:starEach [b,c] X.env=[(false,eval b X.env),(false,eval c X.env)]:=by rfl):
  UH X tg (.Call (.Name "range" p) [a,b,c] [] pos) (qP DK fs):=kR (My hg hm ha hs qR) λσ H R aP=>by
 obtain⟨Av,ρ,ds,hA,hE,hf,q⟩:=aP;obtain⟨as,e1,e2⟩:=bind_some hf;refine⟨Av,ρ,as,hA,hE,e1,λvs H1 s1 r=>?_⟩;unfold DK at e2;split at e2
 ·rename_i i j k;split at e2
  ·rename_i hj;obtain⟨rfl,⟨g1,g2⟩,g3,g4⟩:=hj;cases e2;obtain⟨v,u,t,rfl,rv,ru,rt⟩:=r.F2;rw[rv.cQ,ru.cQ,rt.cQ];exact⟨i,j,rfl,⟨g1,g2,g3,g4⟩,q _ [.bO] [.none] H1 s1 (.cons .bO .nil) Gf.s⟩
  ·cases e2
 ·cases e2
variable {fs:ar->Option (List Dat)} in
theorem FR(hm:X.mg "range"=none)(ha:kL X [a,b,c] fs)(hg:Gl X "range":=by rfl)(hs:starEach [a,b,c] X.env=[(false,eval a X.env),(false,eval b X.env),(false,eval c X.env)]:=by rfl)(qR:starEach [b,c] X.env=[(false,eval b X.env),(false,eval c X.env)]:=by rfl):
  sW X tg (.Call (.Name "range" p) [a,b,c] [] pos) (qP DK fs):=⟨IY hm ha.o hg hs qR⟩
def Em (fa fb:ar->Option (List Dat)):ar->Option (List Dat):=λρ=>(fa ρ).bind λx=>(fb ρ).bind λy=>if x.length+y.length<=sizeLine then some (x++y)else none
variable {gs:ar->Option (List Dat)}
variable {fs:ar->Option (List Dat)} in
theorem MC(ha:PE X a (kc X.K fs))(hb:PE X b (kc X.K gs)):PE X (.BinOp a .Add b pos) (kc X.K (Em fs gs)):=bp (yg vS ha hb) λσ H Q aP=>by
 obtain⟨Av,ρ,out,hA,hE,hf,q⟩:=aP;obtain⟨x,e1,hf⟩:=bind_some hf;obtain⟨y,e2,hf⟩:=bind_some hf;split at hf
 ·rename_i hz;cases hf;refine⟨Av,ρ,x,hA,hE,e1,λH1 p xs s1 hp r=>?_⟩;have s2:=bM hp (.lst xs);refine⟨Av,ρ,y,hA.same (s1.trans s2),hE.same (s1.trans s2),e2,λH2 p2 ys s3 fc r2=>?_⟩;have s4:=bM fc (.lst ys);refine⟨p,p2,xs,ys,rfl,rfl,.of (s4 p _ (s3 p _ eA)),.of eA,by rw[r.length,r2.length];exact hz,λp3 Xc=>?_⟩;exact q _ p3 _ (s1.trans (s2.trans (s3.trans s4))) Xc ((r.same (s2.trans (s3.trans s4))).append (r2.same s4))
 ·cases hf
variable {fs:ar->Option (List Dat)} in
theorem IQ(ha:QE X a (kc X.K fs))(hb:QE X b (kc X.K gs)):QE X (.BinOp a .Add b pos) (kc X.K (Em fs gs)):=⟨MC ha.o hb.o⟩
def Gq:Nat->Dat->Bool
 |0,_=>false
 |n+1,d=>match d with
  | .list _=>false
  | .tuple ds=>ds.all (Gq n)
  | .none=>true
  | .bool _=>true
  | .int _=>true
  | .str _=>true
  |_=>false
theorem aU.apart{K:Fg}{ah H H':Hp}{Av:gg}{pn:Option Addr}{aF:Hid}{σ:L2.St}{Γ:aw}{ad:Nat->Addr}(G:GA K ah Av pn aF H σ Γ ad)(s:bg H H'):∀(n:Nat) {v:V} {d:Dat},Gq n d=true->aU K H' Av v d->aU K H' (aO Av Γ ad) v d
 |0,v,d,h,_=>by cases h
 |n+1,v,d,h,r=>by
  cases r with
  |bO=>exact .bO
  |bl b=>exact .bl b
  |int i=>exact .int i
  |str x=>exact .str x
  | @tup a xs ds hq rs=>
   have mS:ds.all (Gq n)=true:=h;have WN:az K H' (aO Av Γ ad) xs ds:=by
    clear hq h;induction xs generalizing ds with
    |nil=>cases rs;exact .nil
    |cons x xs ih=>
     cases rs with
     |cons r1 r2=>
      rw[all_cons,and_eq_true]at mS;exact .cons (aU.apart G s n mS.1 r1) (ih r2 mS.2)
   refine .tup ?_ WN;rcases hq with⟨h1,h2⟩|h1
   ·refine .inl ⟨h1,?_⟩;rintro(z|⟨i,sl,ei,mi,z⟩)
    ·exact h2 z
    ·cases sl with
     |a7 d=>cases mi
     |own es=>
      obtain⟨ys,_,hl,_⟩:=G.own i es ei;have jw:=s _ _ hl;rw[z]at jw;rcases h1 with h1|⟨o,h1⟩
      ·rw[h1]at jw;cases jw
      ·rw[h1]at jw;cases jw
     |obj O es=>
      obtain⟨ys,_,hl,_⟩:=G.obj i O es ei;have jw:=s _ _ hl;rw[z]at jw;rcases h1 with h1|⟨o,h1⟩
      ·rw[h1]at jw;cases jw
      ·rw[h1]at jw;cases jw
   ·exact .inr h1
  |lst _ _=>cases h
def yd (i:Nat) (f:ar->Option Dat):aw->Option Fl:=λΓ=>(f (c7 Γ)).bind λd=>if Gq 9 d=true then some (.nx (Γ.set i (some (.a7 d))))else none
theorem IU(i:Nat)(hN:X.N.Nodup)(h:PF X e f)(hi:X.N[i]?=some x:=by rfl)(hx:Loc X.env.scope x:=by first|exact .inl rfl|exact .inr rfl)(hs:swapsWith e (some (.Name x pos')) pos.line X.env=pure false:=by rfl)(hf:X.fn x=true\/X.env.scope.names.lookup x=some .local:=by first|exact .inl rfl|exact .inr rfl):
  Rl X (.Assign [.Name x pos'] e pos) (yd i f):=bY (qC hN hi hx h hs hf) λD σ H aP=>by
 obtain⟨ah,Av,pn,aF,Γ,fl,⟨ad,G⟩,hf,q⟩:=aP;obtain⟨d,e1,hf⟩:=bind_some hf;split at hf
 ·rename_i hn;cases hf;exact⟨Av,c7 Γ,d,G.j5.same G.same,G.rh,e1,λv H' s r=>q _ _ ⟨ad,(G.grow s).set i (aU.apart G s 9 hn r)⟩⟩
 ·cases hf
theorem xi(i:Nat)(hN:X.N.Nodup)(h:QF X e f)(hi:X.N[i]?=some x:=by rfl)(hx:Loc X.env.scope x:=by first|exact .inl rfl|exact .inr rfl)(hs:swapsWith e (some (.Name x pos')) pos.line X.env=pure false:=by rfl)(hf:X.fn x=true\/X.env.scope.names.lookup x=some .local:=by first|exact .inl rfl|exact .inr rfl):
  fY X (.Assign [.Name x pos'] e pos) (yd i f):=⟨IU i hN h.o hi hx hs hf⟩
open PySem PySem.Spec PyProof.Rows L2
open PySem.W (Dat kqdOk)
def vL (i:Nat) (f fb:ar->Option Dat):aw->Option Fl:=λΓ=>(f (bj Γ)).bind λd=>(fb (bj Γ)).bind λk=>(qb k).bind λk=>match Γ[i]? with
 |some (some (.own ds))=>(mO ds.length k).map λj=>.nx (Γ.set i (some (.own (ds.set j d))))
 |_=>none
theorem DU(i:Nat)(pe:PF X e f)(pb:PF X b fb)(hN:X.N[i]?=some x:=by rfl)(hv:n8 X.env.scope x:=by first|exact Or.inl rfl|exact Or.inr (Or.inl rfl)|exact Or.inr (Or.inr rfl))(hd:(x==("__debug__" : Str))=false:=by decide)(gB:(x==("__classdict__" : Str))=false:=by decide)(ha:∀v,assign (.Subscript (.Name x p1) b p3) X.env v=(do
   let ov <- holding [v] (eval (.Name x p1) X.env);let iv <- holding [v,ov] (eval b X.env);standAt p3
   holding [v,ov,iv] (setItem ov iv v)
   release [v,ov,iv] []):=by intro _;rfl)(hs:swapsWithSole [.Subscript (.Name x p1) b p3] e pos.line X.env=pure false:=by rfl)(hw:swappedStores [.Subscript (.Name x p1) b p3] e X.env=pure none:=by rfl)(h1:(assignEach [.Subscript (.Name x p1) b p3] X.env).map (·.2)=[assign (.Subscript (.Name x p1) b p3) X.env]:=by rfl):
  Rl X (.Assign [.Subscript (.Name x p1) b p3] e pos) (vL i f fb):=bY (qE pe (ze (mJ hN hv hd gB) pb set_list ha) hs hw h1) λD σ H aP=>by
 obtain⟨ah,Av,pn,aF,Γ,fl,⟨ad,G⟩,hf,q⟩:=aP;obtain⟨d,e1,Xv⟩:=bind_some hf;obtain⟨kd,e2,PZ⟩:=bind_some Xv;obtain⟨k,e3,ig⟩:=bind_some PZ;have e4:=AL e3;subst e4;cases hi:Γ[i]? with
 |none=>rw[hi]at ig;cases ig
 |some o=>
  cases o with
  |none=>rw[hi]at ig;cases ig
  |some sl=>
   cases sl with
   |a7 _=>rw[hi]at ig;cases ig
   |obj _ _=>rw[hi]at ig;cases ig
   |own ds=>
    rw[hi]at ig;obtain⟨j,e5,Xu⟩:=ba (show(mO ds.length k).map _=some fl from ig);subst Xu;refine⟨aO Av Γ ad,bj Γ,d,G.gf,G.j3,e1,λv H' s r=>?_⟩;have G1:=G.grow s;obtain⟨xs,g1,g2,g3,g4⟩:=G1.own i ds hi;refine⟨_,g1,aO Av Γ ad,bj Γ,.int k,G1.gf,G1.j3,e2,λy H2 s2 ry=>?_⟩;have G2:=G1.grow s2;obtain⟨ys,g5,g6,g7,g8⟩:=G2.own i ds hi;refine⟨_,ys,k,j,rfl,ry.cQ,g6,by rw[g7.length];exact e5,q _ _ ⟨ad,G2.change hi (g7.set (r.same s2))⟩⟩
theorem B6(i:Nat)(pe:QF X e f)(pb:QF X b fb)(hN:X.N[i]?=some x:=by rfl)(hv:n8 X.env.scope x:=by first|exact Or.inl rfl|exact Or.inr (Or.inl rfl)|exact Or.inr (Or.inr rfl))(hd:(x==("__debug__" : Str))=false:=by decide)(gB:(x==("__classdict__" : Str))=false:=by decide)(ha:∀v,assign (.Subscript (.Name x p1) b p3) X.env v=(do
   let ov <- holding [v] (eval (.Name x p1) X.env);let iv <- holding [v,ov] (eval b X.env);standAt p3
   holding [v,ov,iv] (setItem ov iv v)
   release [v,ov,iv] []):=by intro _;rfl)(hs:swapsWithSole [.Subscript (.Name x p1) b p3] e pos.line X.env=pure false:=by rfl)(hw:swappedStores [.Subscript (.Name x p1) b p3] e X.env=pure none:=by rfl)(h1:(assignEach [.Subscript (.Name x p1) b p3] X.env).map (·.2)=[assign (.Subscript (.Name x p1) b p3) X.env]:=by rfl):
  fY X (.Assign [.Subscript (.Name x p1) b p3] e pos) (vL i f fb):=⟨DU i pe.o pb.o hN hv hd gB ha hs hw h1⟩
open PySem PySem.Spec PyProof.Rows L2
open PySem.W (Dat kqdOk kqdP kqdPs kqd_lay)
abbrev RK:=Str×List Int
def dU (k:RK):Dat:=.tuple [.str k.1,.tuple (k.2.map .int)]
def rP (w:World) (k:RK):Int:=reduceHash (Builtin.Tuple.tupleHashOf [hashStr w k.1,reduceHash (Builtin.Tuple.tupleHashOf (k.2.map hashInt))])
def dX (P:Program) (w:World) (h:Heap) (k:RK) (a:Addr):Prop:=∃o n t b,h.get? a=some o/\o.cls=.type "tuple"/\o.data=.seq #[.str k.1 t,.ref b] n/\IsTupleKey (intKind P w) h k.2 b/\PyData.strOk k.1=true
variable {k:RK} {a:Addr}
variable {s:Shared} in
theorem dX.ty(x:dX P w s.heap k a):s.TypeIs (.ref a) "tuple":=by
 obtain⟨o,n,t,b,h1,h2,_⟩:=x;exact⟨o,h1,h2⟩
variable {h:Heap} {x y:RK}
theorem dX.same(p:dX P w h x a)(q:dX P w h y a):x=y:=by
 obtain⟨o,n,t,b,h1,h2,h3,h4,_⟩:=p;obtain⟨o',n',t',b',g1,g2,g3,g4,_⟩:=q;have e:o=o':=Option.some.inj (h1.symm.trans g1);subst e;rw[h3]at g3;injection g3 with g3 _;injection g3 with g3;injection g3 with e1 e2;injection e2 with e2 _;injection e1 with e1 _;injection e2 with e2;subst e2;exact Prod.ext e1 (h4.inj g4)
variable {d:Addr}
theorem dX.nV{o:Obj}{es ep}(x:dX P w h k a)(ho:h.get? d=some o)(hd:o.data=.dict es ep)(hs:SameBut d h h'):dX P w h' k a:=by
 obtain⟨o',n,t,b,h1,h2,h3,h4,h5⟩:=x;refine⟨o',n,t,b,(hs.2 a ?_).trans h1,h2,h3,h4.keeps ho hd hs,h5⟩;intro z;subst z;rw[h1]at ho;cases ho;rw[hd]at h3;cases h3
variable {s:Shared} in
theorem dX.hash{Q:Int->Shared->Prop}(hu:A.units+8<cLine)(hk:dX P w s.heap k a)(h:Q (rP w k) {s with toks:=s.toks+(k.2.length+3)}):wpAny (model P w) A (pyHash (.ref a)) Q E s:=by
 have ty:=hk.ty;obtain⟨o,n,t,b,ho,_,hd,hb,_⟩:=hk;unfold pyHash pyHashByItsType;refine wpAny_bind (wpAny_cRoomFor_or (.inr (by omega)) (wpAny_bind (wpAny_specialOf ty F.slot_tuple_hash.lookup ?_)));have nb:¬((some (Value.builtin "tuple.__hash__")==some Value.none)=true):=by rw[beq_builtin_none];exact Bool.false_ne_true
 refine(?_:wpAny _ _ (if(some (Value.builtin "tuple.__hash__")==some Value.none)=true then _ else _) Q E s);rw[if_neg nb];refine wpAny_bind (wpAny_specialOf ty F.slot_tuple_hash.lookup (?_:wpAny _ _ (callSpecialIfBoundUnlessNone? (.ref a) "__hash__" _ >>= _) Q E s));refine wpAny_bind (wpAny_callSpecialIfBoundUnlessNone?_slot ty F.slot_tuple_hash (wpAny_call_entry F.slot_tuple_hash ty F.entry_tuple_hash ?_ (F.args_tuple_hash_1 _)));refine(?_:wpAny _ _ (Builtin.Tuple.tupleItemsOf (.ref a) >>= _) _ _ s);refine wpAny_bind (wpAny_tupleItemsOf ho hd (wpAny_bind ?_));rw[<- forIn_toList];refine wpAny_forIn_list _ (λrest (arr:Array Int) s'=>(rest=[.str k.1 t,.ref b]/\arr.toList=[]/\s'=s)\/(rest=[.ref b]/\arr.toList=[hashStr w k.1]/\s'={s with toks:=s.toks+1})\/
  (rest=[]/\arr.toList=[hashStr w k.1,tupleKeyHash (intKind P w) k.2]/\s'={s with toks:=s.toks+1+(k.2.length+1)})) _ ?_ ?_ _ _ (.inl ⟨rfl,rfl,rfl⟩)
 ·rintro x rest arr s' (⟨h1,h2,rfl⟩|⟨h1,h2,rfl⟩|⟨h1,_⟩)
  ·cases h1;refine wpAny_bind (wpAny_pyHash_str ?_);first
    |exact wpAny_pure (.inr (.inl ⟨rfl,by simp[h2],rfl⟩))
    |exact wpAny_bind (wpAny_pure (wpAny_pure (.inr (.inl ⟨rfl,by simp[h2],rfl⟩))))
  ·cases h1;refine wpAny_bind (wpAny_pyHash_tuple (by first|omega|(show A.units+1<cLine;omega)|(show A.units+2<cLine;omega)) hb ?_)
   first
    |exact wpAny_pure (.inr (.inr ⟨rfl,by simp[h2],rfl⟩))
    |exact wpAny_bind (wpAny_pure (wpAny_pure (.inr (.inr ⟨rfl,by simp[h2],rfl⟩))))
  ·cases h1
 ·rintro arr s' (⟨h1,_⟩|⟨h1,_⟩|⟨_,h2,rfl⟩)
  ·cases h1
  ·cases h1
  ·refine(?_:wpAny _ _ (retInt (Builtin.Tuple.tupleHashOf arr.toList)) _ _ _);rw[h2];refine wpAny_ret_mkInt ?_;have e1:tupleKeyHash (intKind P w) k.2=reduceHash (Builtin.Tuple.tupleHashOf (k.2.map hashInt)):=rfl;rw[e1];unfold rP at h;generalize hz:Builtin.Tuple.tupleHashOf [hashStr w k.1,reduceHash (Builtin.Tuple.tupleHashOf (k.2.map hashInt))]=z at h;refine(?_:wpAny _ _ (if(decide (-(2:Int)^63<=z)&&decide (z<2^63))=true then _ else _) Q E _);have et:s.toks+1+(k.2.length+1)+1=s.toks+(k.2.length+3):=by omega
   unfold reduceHash at h;by_cases hr:(decide (-(2:Int)^63<=z)&&decide (z<2^63))=true
   ·rw[if_pos hr]at h ⊢;exact wpAny_pure (by rw[<- et]at h;exact h)
   ·rw[if_neg hr]at h ⊢;exact wpAny_bind (wpAny_rule (wpAny_pure (by rw[<- et]at h;exact h)))
theorem uS{h:Heap}:∀{ns:List Int} {vs:List Value},ItemsAre (intKind P w) ns vs->ReadsAll h vs (kqdPs (ns.map Dat.int)) []
 |[],_,.nil=>by rw[map_nil,kqdPs];exact .nil
 |n::ns,_,.cons h1 hr=>by
  obtain⟨t,rfl⟩:=Value.isInt_shape (k:=n) h1;rw[map_cons,kqdPs,kqdP];have:=ReadsAll.cons (Reads.int n t) (uS (h:=h) hr);exact this
theorem dX.reads(x:dX P w h k a):Reads h (.ref a) (kqdP (dU k)) []:=by
 obtain⟨o,n,t,b,h1,h2,h3,⟨o',ak,n',g1,g2,g3,g4⟩,_⟩:=x;unfold dU;rw[kqdP,kqdPs,kqdPs,kqdPs,kqdP,kqdP];refine .tuple h1 h2 h3 ?_;have:=ReadsAll.cons (Reads.str (h:=h) k.1 t) (ReadsAll.cons (Reads.tuple g1 g2 g3 (uS (h:=h) g4)) .nil);exact this
theorem dX.F9(x:dX P w h k a):PyData.strOk k.1=true:=let ⟨_,_,_,_,_,_,_,_,q⟩:=x;q
theorem mj(hk:PyData.strOk k.1=true):kqdOk 9 (dU k)=true:=by
 have e:(k.2.map Dat.int).all (kqdOk 7)=true:=by rw[all_map,all_eq_true];exact λ_ _=>rfl
 unfold dU;simp only[kqdOk,all_cons,all_nil,e,hk,Bool.and_true,Bool.true_and]
theorem oZ(h:dU x=dU y):x=y:=by
 unfold dU at h;simp only[PySem.W.Dat.tuple.injEq,List.cons.injEq,PySem.W.Dat.str.injEq,and_true]at h;exact Prod.ext h.1 ((List.map_inj_right λa b e=>by simpa using e).mp h.2)
variable {Q:Bool->Shared->Prop}
variable {s:Shared} in
theorem dX.eqv{b:Addr}(hu:A.units+8<cLine)(hx:dX P w s.heap x a)(hy:dX P w s.heap y b)(h:Q (decide (x=y)) s):wpAny (model P w) A (eqBool (.ref a) (.ref b)) Q E s:=by
 have l1:=kqd_lay 9 _ (mj hx.F9);have l2:=kqd_lay 9 _ (mj hy.F9);have d3:(kqdP (dU x)).depth<=3:=by
  have e:kqdOk 3 (dU x)=true:=by
   have e:(x.2.map Dat.int).all (kqdOk 1)=true:=by rw[all_map,all_eq_true];exact λ_ _=>rfl
   unfold dU;simp only[kqdOk,all_cons,all_nil,e,hx.F9,Bool.and_true,Bool.true_and]
  exact(kqd_lay 3 _ e).2
 refine PySem.SeqAt.eqBoolOverData P w A E s _ _ _ _ _ _ Q hx.reads hy.reads l1.1 l2.1 (by omega) ?_;rw[wj _ _ (mj hx.F9) (mj hy.F9)];by_cases e:x=y
 ·subst e;rw[lB rfl];rw[decide_eq_true rfl]at h;exact h
 ·rw[lC λz=>e (oZ z)];rw[decide_eq_false e]at h;exact h
variable {m:Nat}
variable {s:Shared} in
theorem DM{ks:List Int}(hk:IsTupleKey (intKind P w) s.heap ks a)(h:Q true s):wpAny (model P w) A (eqIsQuiet (m+1) (.ref a)) Q E s:=by
 have hT:=hk.typeIs;obtain⟨o,ak,n,ho,_,hd,hi⟩:=hk;unfold eqIsQuiet;refine wpAny_bind (wpAny_specialOf hT F.slot_tuple_eq.lookup (?_:wpAny _ _ (isInstance (.ref a) (.type "tuple") >>= _) _ _ s));refine wpAny_bind (wpAny_isInstance hT isSubtype_tuple_tuple ?_);simp only[Bool.not_true,false_eq_true,if_false];refine wpAny_bind (wpAny_seqItems ho hd (wpAny_bind (?_:wpAny _ _ (forIn ak _ _) _ _ s)));rw[<- forIn_toList];refine wpAny_forIn_list _ (λtl acc s2=>(∀x∈tl,carriedByValue x=true)/\s2=s/\acc.1=none) _ ?_ ?_ _ _ ⟨hi.byValue,rfl,rfl⟩
 ·rintro x tl acc s2 ⟨hv,rfl,ha⟩;rw[eqIsQuiet_byValue _ (hv x mem_cons_self)];refine wpAny_bind (wpAny_pure ?_);simp only[Bool.not_true,false_eq_true,if_false];exact wpAny_pure ⟨λu q=>hv u (mem_cons_of_mem _ q),rfl,rfl⟩
 ·rintro⟨c1,c2⟩ s2 ⟨_,rfl,ha⟩;simp only at ha;subst ha;exact wpAny_pure h
variable {s:Shared} in
theorem dX.quiet(hk:dX P w s.heap k a)(h:Q true s):wpAny (model P w) A (eqIsQuiet 8 (.ref a)) Q E s:=by
 have hT:=hk.ty;obtain⟨o,n,t,b,ho,_,hd,hb,_⟩:=hk;unfold eqIsQuiet;refine wpAny_bind (wpAny_specialOf hT F.slot_tuple_eq.lookup (?_:wpAny _ _ (isInstance (.ref a) (.type "tuple") >>= _) _ _ s));refine wpAny_bind (wpAny_isInstance hT isSubtype_tuple_tuple ?_);simp only[Bool.not_true,false_eq_true,if_false];refine wpAny_bind (wpAny_seqItems ho hd (wpAny_bind (?_:wpAny _ _ (forIn #[Value.str k.1 t,.ref b] _ _) _ _ s)));rw[<- forIn_toList];refine wpAny_forIn_list _ (λrest r s'=>r.1=none/\s'=s/\(∀v∈rest,carriedByValue v=true\/v=.ref b)) _ ?_ ?_ _ _ ⟨rfl,rfl,λv hv=>by
  simp only[mem_cons,not_mem_nil,or_false]at hv;rcases hv with e|e
  ·rw[e];exact .inl rfl
  ·exact .inr e⟩
 ·rintro v rest acc s2 ⟨ha,rfl,mS⟩;rcases mS v mem_cons_self with e|e
  ·rw[eqIsQuiet_byValue _ e];refine wpAny_bind (wpAny_pure ?_);simp only[Bool.not_true,false_eq_true,if_false];exact wpAny_pure ⟨rfl,rfl,λu q=>mS u (mem_cons_of_mem _ q)⟩
  ·rw[e];refine wpAny_bind (DM hb ?_);simp only[Bool.not_true,false_eq_true,if_false];exact wpAny_pure ⟨rfl,rfl,λu q=>mS u (mem_cons_of_mem _ q)⟩
 ·rintro⟨c1,c2⟩ s2 ⟨ha,rfl,_⟩;simp only at ha;subst ha;exact wpAny_pure h
def vO (P:Program) (w:World):HeapKind P w RK where
 is:=dX P w
 hash:=rP w
 draws:=λk=>k.2.length+3
 room:=λA=>A.units+8<cLine
 inj:=λp q=>p.same q
 keeps:=λx ho hd hs=>x.nV ho hd hs
 pyHash:=λhu hk h=>hk.hash hu h
 eqBool:=λhu hx hy h=>hx.eqv hu hy h
 quiet:=λhk h=>hk.quiet h
open PySem PySem.Spec PyProof.Rows L2
open PySem.W (Dat kqdOk)
theorem oC:fillsNumberSlot (.type "tuple") "mul"=pure false:=PySem.fillsNumberSlot_seq (id:="tuple.__mul__") (r:=some (.builtin "tuple.__rmul__")) F.slot_tuple_mul.lookup (by decide +kernel) F.slot_tuple_rmul.lookup (by decide +kernel)
theorem uE:seqRepeat? (.type "tuple")=pure (some (.builtin "tuple.__mul__")):=by
 unfold seqRepeat?;rw[PySem.seqSlot_of (T:="tuple") (name:="__mul__") (id:="tuple.__mul__") F.slot_tuple_mul.lookup (by decide +kernel),PySem.seqSlot_of (T:="tuple") (name:="__rmul__") (id:="tuple.__rmul__") F.slot_tuple_rmul.lookup (by decide +kernel)];rfl
theorem yN(a:Int)(t:Tok)(l:Addr)(items:Array Value)(n:Nat)(d:Option Addr)(sl:Array (Option Value)):
  Meets (Builtin.«int.__rmul__» ⟨[.int a t,.ref l],[]⟩) (λ_ R s=>s.heap.get? l=some {cls:=.type "tuple",dict:=d,data:=.seq items n,slots:=sl}/\R (.ok (.ret Value.notImplemented)) s):=
 .of_wp λprog w A R s h=>by obtain⟨hp,g,d,tk,os⟩:=s;obtain⟨hl,h⟩:=h;wp_walk;exact⟨_,rfl,h⟩
theorem Jc(l:Addr)(items:Array Value)(n:Nat)(dd:Option Addr)(sl:Array (Option Value))(u:Tok):
  Meets (Builtin.«tuple.__mul__» ⟨[.ref l,.int 1 u],[]⟩) (λ_ R s=>s.heap.get? l=some {cls:=.type "tuple",dict:=dd,data:=.seq items n,slots:=sl}/\R (.ok (.ret (Value.ref l))) s):=
 .of_wp λprog w A R s h=>by
  obtain⟨hp,g,d,tk,os⟩:=s;obtain⟨hl,h⟩:=h;have f1:=AutoSeq1.idx_int;have f2:=AutoSeq1.sub_tuple_tuple;have hx:¬((decide ((1:Int) < -(2^63)) || decide ((1:Int)>=2^63))=true):=by decide
  have h1:(items.isEmpty || (1:Int)==1)=true:=by simp
  wp_walk using wpAny_loadPart' hl;exact⟨_,rfl,h⟩
theorem Jb(l:Addr)(items:Array Value)(n:Nat)(dd:Option Addr)(sl:Array (Option Value))(x:Int)(u:Tok)(v7:¬items.isEmpty=true)(hx1:1<x)(eh:x<2^63)(hz:items.size*x.toNat<=sizeLine):
  Meets (Builtin.«tuple.__mul__» ⟨[.ref l,.int x u],[]⟩) (λ_ R s=>s.heap.get? l=some {cls:=.type "tuple",dict:=dd,data:=.seq items n,slots:=sl}/\R (.ok (.ret (Value.ref s.heap.objs.size))) {s with heap:=s.heap.push {cls:=Value.type "tuple",data:=Data.seq (foldl (λx1 x2=>x1++x2) #[] (List.replicate x.toNat items))},toks:=s.toks}):=
 .of_wp λprog w A R s h=>by
  obtain⟨hp,g,d,tk,os⟩:=s;obtain⟨hl,h⟩:=h;have f1:=AutoSeq1.idx_int;have f2:=AutoSeq1.sub_tuple_tuple;have c0:¬((decide (x < -(2^63)) || decide (x>=2^63))=true):=by simp;omega
  have c1:¬((items.isEmpty || x==1)=true):=by simp at v7 ⊢;exact⟨v7,by omega⟩
  have c2:¬((decide (x<=0) || items.isEmpty)=true):=by simp at v7 ⊢;exact⟨by omega,v7⟩
  have e:(items.size:Int)*x=((items.size*x.toNat:Nat):Int):=by rw[natCast_mul];congr 1;omega
  have hs:sizeLine=2^24:=sizeLine_eq;have c3:¬((items.size:Int)*x>(2^63-1)/8):=by rw[e];omega
  have c4:¬(Builtin.Tuple.tupleTooMany ((items.size:Int)*x)=true):=by rw[e];unfold Builtin.Tuple.tupleTooMany;rw[decide_eq_true_eq];omega
  have hsz:(foldl (λx1 x2=>x1++x2) #[] (List.replicate x.toNat items)).size<=sizeLine:=by
   rw[AutoListH.size_joined];simp;rw[Nat.mul_comm];exact hz
  wp_walk using wpAny_loadPart' hl
  refine wpAny_ite_false (decide_eq_false c0) ?_;wp_walk using wpAny_loadPart' hl
  refine wpAny_ite_false (decide_eq_false c1) ?_;wp_walk using wpAny_loadPart' hl
  refine wpAny_ite_false (decide_eq_false c2) ?_;wp_walk using wpAny_loadPart' hl
  refine wpAny_ite_false (decide_eq_false c3) ?_;wp_walk using wpAny_loadPart' hl
  refine wpAny_ite_false (decide_eq_false c4) ?_;wp_walk using wpAny_loadPart' hl
  refine wpAny_ite_false (decide_eq_false (Nat.not_lt.mpr hsz)) ?_;wp_walk
  exact⟨_,rfl,h⟩
def Kx (K:Fg):R2:=λx y H Q=>∃l k xs,x=.ref l/\y=.int k/\iN K H l xs/\xs≠[]/\1<=k/\k<2^63/\xs.length*k.toNat<=sizeLine/\(k=1->Q (.ref l) H)/\(1<k->∀p,H p=none->Q (.ref p) (upd H p (.tup (List.replicate k.toNat xs).flatten)))
theorem MI:dS X (binaryOp .Mult) (Kx X.K):=by
 intro pins s σ H x y v u Q I rx ry h;obtain⟨l,k,xs,rfl,rfl,hH,cw,h1,h2,hz,q0,q1⟩:=h;cases rx;obtain⟨t,rfl⟩:=ry;obtain⟨ak,r,p1,_⟩:=I.tuple hH;obtain⟨⟨cls,dd,data,sl⟩,ho,hc,n,hd⟩:=p1;simp only at hc hd;subst hc hd;have hl:=r.length;have hv:ak≠[]:=λz=>cw (r.mn.mp z);refine wpAny_binaryOp_repeat_ref (T:="tuple") (U:="int") (by decide) ⟨_,ho,rfl⟩ (λs'=>typeIs_int s' k t) oC F.fills_int_mul F.slot_int_rmul uE F.slot_int_index.lookup
  (call_meets F.slot_int_rmul (typeIs_int s k t) F.entry_int_rmul (F.args_int_rmul_2 _ _) (yN k t l ak.toArray n dd sl) ⟨ho,rfl,⟨_,ho,rfl⟩,?_⟩)
 by_cases c:k=1
 ·subst c;exact call_meets F.slot_tuple_mul ⟨_,ho,rfl⟩ F.entry_tuple_mul (F.args_tuple_mul_2 _ _) (Jc l ak.toArray n dd sl t) ⟨ho,⟨.ref l,H,I,rfl,q0 rfl⟩⟩
 ·refine call_meets F.slot_tuple_mul ⟨_,ho,rfl⟩ F.entry_tuple_mul (F.args_tuple_mul_2 _ _) (Jb l ak.toArray n dd sl k t (by simpa using hv) (by omega) h2 (by rw[size_toArray,<- hl];exact hz)) ⟨ho,?_⟩;have f0:=foldl_rep ak k.toNat [];rw[nil_append]at f0;rw[f0];refine⟨.ref s.heap.objs.size,upd H s.heap.objs.size (.tup (List.replicate k.toNat xs).flatten),I.laid (t':=s.toks) (λb u e=>get?_push_of_some _ e) (le_refl _) ?_,rfl,q1 (by omega) _ I.fresh⟩;exact⟨by rw[len_rep,Nat.mul_comm];exact hz,_,r.rep k.toNat,⟨_,get?_push_size _ rfl,rfl,_,rfl⟩⟩
open PySem PySem.Spec PyProof.Rows L2
open PySem.W (Dat kqdOk)
variable {hI:aw->Option (List Dat×aw)}
def SY (K:Fg) (hI:aw->Option (List Dat×aw)):TI:=λσ H R=>∃ah Av pn aF Γ ad ak af,GA K ah Av pn aF H σ Γ ad/\hI Γ=some (ak,af)/\∀J xs jZ H1 fJ,GA K ah Av pn aF H1 σ af fJ->az K H1 (aO Av af fJ) xs jZ->yq K J xs jZ ak->R J H1
abbrev LO (X:Cx) (tg iter:Expr) (hI:aw->Option (List Dat×aw)):Prop:=QI X tg iter (SY X.K hI)
def Jw (rg:List Dat->Option (List Dat)) (hs:aw->Option (List Dat×aw)):aw->Option (List Dat×aw):=λΓ=>(hs Γ).bind λp=>(rg p.1).map λak=>(ak,p.2)
variable {a:Expr}
theorem sI(hm:X.mg "range"=none)(ha:vq X [a] hs)(GV:Gl X "range":=by rfl)(hst:starEach [a] X.env=[(false,eval a X.env)]:=by rfl):LO X tg (.Call (.Name "range" p) [a] [] pos') (Jw jI hs):=⟨kR (qG GV hm ha.o hst) λσ H R aP=>by
 obtain⟨ah,Av,pn,aF,Γ,ad,ak,af,G,hf,q⟩:=aP;obtain⟨⟨as,Γ1⟩,e1,hf⟩:=bind_some hf;obtain⟨its',e2,hf⟩:=ba hf;obtain⟨h1,h2⟩:=Prod.mk.inj hf;subst h1 h2;refine⟨ah,Av,pn,aF,Γ,ad,as,Γ1,G,e1,λvs H1 fJ G1 r=>?_⟩;dsimp only at e2;unfold jI at e2;split at e2
 ·rename_i j;split at e2
  ·rename_i hj;cases e2;obtain⟨v,rfl,rv⟩:=r.eJ;rw[rv.cQ];exact⟨_,rfl,hj.1,hj.2,q _ [.bO] [.none] H1 fJ G1 (.cons .bO .nil) p6.s⟩
  ·cases e2
 ·cases e2⟩
def v8 (i:Nat) (cA:List (Option Nat)) (gt:Dat->Option cN) (fe:HF) (hI:aw->Option (List Dat×aw)):aw->Option (List Dat×aw):=λKc=>(hI Kc).bind λp=>match p.2[i]? with
 |some (some (.own ds))=>if p.1.length<sizeLine then(kA gt fe (km (dm cA (bj p.2))) p.1 ds).map λq=>(q.1,p.2.set i (some (.own q.2)))else none
 |_=>none
theorem M9(ht:kD gt (some i::cA)):∀σ H Q,F3 K (v8 i cA gt fe hI) σ H Q->rO (some i::cA) (SY K hI) (iQ K gt) yA (tH K fe) σ H Q:=by
 rintro σ H Q ⟨ah,Av,pn,aF,Wn,YH,out,af,Gi,hf,q⟩;obtain⟨⟨ak,Γ⟩,e1,hf⟩:=bind_some hf;dsimp only at hf;split at hf
 ·rename_i Aw hi;split at hf
  ·rename_i hz;obtain⟨⟨zt,As⟩,e2,hf⟩:=ba hf;obtain⟨h1,h2⟩:=Prod.mk.inj hf;subst h1 h2;clear hf;dsimp only at q;refine⟨ah,Av,pn,aF,Wn,YH,ak,Γ,Gi,e1,λJ xs jZ H1 ad G rx ov=>?_⟩;refine⟨λk m ys H2=>m=ak.length-k/\k<=ak.length/\∃lA o1 o2 df,GA K ah Av pn aF H2 σ (Γ.set i (some (.own lA))) ad/\az K H2 (aO Av Γ ad) xs jZ/\az K H2 (aO Av Γ ad) ys o1/\o1.length<=k/\kA gt fe (km (dm cA (bj Γ))) (ak.drop k) lA=some (o2,df)/\zt=o1++o2/\As=df,
    ⟨_,rfl,zero_le _,Aw,[],zt,As,?_,rx,.nil,le_refl _,by rw[drop_zero];exact e2,rfl,rfl⟩,?_⟩
   ·have:Γ.set i (some (.own Aw))=Γ:=by
     apply List.ext_getElem?
     intro j;by_cases e:j=i
     ·subst e;rw[getElem?_set_self (ey hi),hi]
     ·rw[getElem?_set_ne (Ne.symm e)]
    rw[this];exact G
   rintro k m ys H2 ⟨rfl,hk,lA,o1,o2,df,G2,rx,ro,hl,hc,rfl,rfl⟩;have GU:(Γ.set i (some (Slot.own lA)))[i]?=some (some (.own lA)):=getElem?_set_self (ey hi);refine⟨by have:=ro.length;omega,?_⟩;have QY:gG H2 (aO Av Γ ad):=λb z=>G2.gf b (aO.gw hi b z);cases gA:ak[k]? with
   |none=>
    have hle:ak.length<=k:=List.getElem?_eq_none_iff.mp gA;rw[drop_eq_nil_of_le hle]at hc;cases hc;refine .inl ⟨(ov k H2 _ rx).1 hle,λD hD=>q H2 D ys ad G2 hD ?_⟩;rw[append_nil];exact ro.weak (aO.set_own hi)
   |some di=>
    have eV:=ey gA;rw[drop_cons gA]at hc;obtain⟨as,a1,hc⟩:=bind_some (show(gt di).bind _=some (o2,As)from hc);obtain⟨⟨dv,ES⟩,a2,hc⟩:=bind_some hc;dsimp only at hc;split at hc
    ·rename_i Au h0;obtain⟨⟨o3,Qr⟩,a3,hc⟩:=ba hc;cases hc;obtain⟨go,yl⟩:=(ov k H2 _ rx).2 di gA;refine .inr ⟨go,λy H' hy=>?_⟩;obtain⟨sH,ry⟩:=yl y H' QY hy;refine⟨aO Av Γ ad,di,as,ry,a1,λws hw=>?_⟩;have cs:∀p∈as,(bZ (some i::cA) σ)[p.1]?=some none:=λp hp=>by
      unfold bZ;rw[getElem?_map,ht di as a1 p hp];rfl
     have G3:=G2.grow sH;obtain⟨zs,g1,g2,g3,g4⟩:=G3.own i lA GU;have GX:bZ (some i::cA) σ=some (.ref (ad i))::bZ cA σ:=by
      unfold bZ;rw[map_cons];show((σ[i]?).join)::_=_;rw[g1];rfl
     have E3:fg K H' (aO Av Γ ad) (bZ cA σ) (dm cA (bj Γ)):=by
      have:=G3.j3;rw[zM hi]at this;exact fg.aW (λj d h=>let ⟨v,e,r⟩:=this j d h;⟨v,e,r.weak (aO.gw hi)⟩) cA
     have QX:gG H' (aO Av Γ ad):=λb z=>G3.gf b (aO.gw hi b z);have Gb:=Af (K:=K) (a:=ad i) QX (.inr ⟨i,_,hi,rfl,rfl⟩) g2 (g3.weak (aO.gw hi)) E3 (by unfold bZ dm;rw[length_map,length_map]);have NP:∀b,aO (λb=>aO Av Γ ad b/\b≠ad i) (some (.own lA)::km (dm cA (bj Γ))) (λ_=>ad i) b->aO Av Γ ad b:=by
      rintro b (z|⟨_,_,_,_,rfl⟩)
      ·exact z.1
      ·exact .inr ⟨i,_,hi,rfl,rfl⟩
     rw[GX];rw[GX]at cs;refine⟨eX.ib hw cs (eX.refl _),?_⟩;simp only[yA,if_true];refine⟨_,_,some (ad i),[],_,_,dv,ES,GA.BO hw NP Gb,a2,λv H4 HV G4 r4=>?_⟩;obtain⟨us,u1,u2,u3,u4⟩:=G4.own 0 Au h0;have ea:HV 0=ad i:=G4.pin _ _ rfl h0;have EX:∀b,aO Av Γ ad b->aO (λb=>aO Av Γ ad b/\b≠ad i) ES HV b:=λb z=>by
      by_cases eb:b=ad i
      ·exact .inr ⟨0,_,h0,rfl,ea.trans eb.symm⟩
      ·exact .inl ⟨z,eb⟩
     have kk:∀b o,H' b=some o->b≠ad i->H4 b=some o:=λb o h ne=>G4.same b o (by rw[if_neg ne];exact h);have kp:lN H' (aO Av Γ ad) H4 (aO Av Γ ad):=λb o h n=>⟨kk b o h λz=>n (.inr ⟨i,_,hi,rfl,z.symm⟩),n⟩;have G5:=G3.lend (es:=Au) GU kk (by rw[<- ea];exact u2) (u3.weak λb z=>EX b (aO.set_own (es:=lA) hi b z));rw[List.set_set]at G5;refine⟨ak.length-(k+1),by omega,rfl,by omega,Au,o1++[dv],o3,Qr,G5,(rx.same sH).mono kp,((ro.same sH).mono kp).append (.cons (r4.weak EX) .nil),?_,a3,?_,rfl⟩
     ·rw[length_append,length_singleton];omega
     ·rw[append_assoc];rfl
    ·cases hc
  ·cases hf
 ·cases hf
open PySem PySem.Spec PyProof.Rows L2
open PySem.W (Dat kqdOk)
def sY (h:Heap) (d:Addr) (es:Array DictEntry) (ep:Nat):Prop:=∃o,h.get? d=some o/\o.ExactDict/\o.data=.dict es ep
variable {es:Array DictEntry} {ep:Nat}
variable {s:Shared} in
theorem sY.ty(m:sY s.heap d es ep):s.TypeIs (.ref d) "dict":=let ⟨o,e,c,_⟩:=m;⟨o,e,c.1⟩
variable {s:Shared} in
theorem N4{Q:Value->Shared->Prop}(nd:(d==sysModules)=false)(m:sY s.heap d es ep)(q:Q (.ref s.heap.objs.size) {s with heap:=s.heap.push {cls:=.type "dict_keyiterator",data:=.fields #[.ref d,.int 0 0,.int es.size 0,.int ep 0]}}):wpAny (model P w) A (pyIter (.ref d)) Q E s:=by
 have ty:=m.ty;obtain⟨o,e,c,da⟩:=m;refine wpAny_pyIter_slot ty F.slot_dict_iter (wpAny_call_entry F.slot_dict_iter ty F.entry_dict_iter ?_ (F.args_dict_iter_1 _));unfold Builtin.«dict.__iter__» Builtin.Dict.dictSlotNone;refine wpAny_bind (wpAny_bind (wpAny_notOrdered_dict ty (wpAny_pure ?_)));refine(?_:wpAny _ _ (Builtin.Dict.showsAll d >>= _) _ _ s);unfold Builtin.Dict.showsAll;rw[if_neg (λz=>Bool.false_ne_true (nd.symm.trans z))];refine wpAny_bind (wpAny_pure (wpAny_bind (wpAny_dictEntries e da (wpAny_bind (wpAny_dictEpoch e da (wpAny_bind (wpAny_newObj_type (wpAny_pure ⟨_,rfl,"dict_keyiterator",_,⟨_,get?_push_size _ rfl,rfl⟩,F.slot_dict_keyiterator_next.lookup,?_⟩))))))));simpa [rawInt]using q
variable {s:Shared} in
theorem N3{Q:Option Value->Shared->Prop}{x:DictEntry}(ki:s.heap.IsKeyIter it d i es.size ep)(m:sY s.heap d es ep)(hx:es[i]?=some x)(q:∀h',h'.IsKeyIter it d (i+1) es.size ep->SameBut it s.heap h'->Q (some x.key) {s with heap:=h'}):wpAny (model P w) A (pyNext (.ref it)) Q E s:=by
 have ty:=ki.typeIs;obtain⟨o,e,c,da⟩:=id ki;obtain⟨o2,e2,c2,HA⟩:=id m;have lt:i<es.size:=by
  by_cases z:i<es.size
  ·exact z
  ·rw[Array.getElem?_eq_none (by omega)]at hx;cases hx
 unfold pyNext;refine wpAny_bind (wpAny_attempt (wpAny_callSpecial?_slot (name:=Str.ofString "__next__") ty F.slot_dict_keyiterator_next (wpAny_call_entry F.slot_dict_keyiterator_next ty F.entry_dict_keyiterator_next (wpAny_bind (wpAny_pure (wpAny_bind (wpAny_bind ?_)))) (F.args_dict_keyiterator_next_1 _))));first|refine wpAny_bind (wpAny_typeNameOfWhole_keyiter ty (wpAny_pure (wpAny_bind (wpAny_fieldsOf e da ?_))))|refine wpAny_bind (wpAny_typeNameOf_keyiter ty (wpAny_pure (wpAny_bind (wpAny_fieldsOf e da ?_))))
 have ow:Builtin.Dict_items.ownsTuple "dict_keyiterator"=false:=by decide
 simp only[ow,false_eq_true,if_false];refine(?_:wpAny _ _ (if(Value.ref d==Value.none)=true then _ else _) _ _ s);have nn:¬((Value.ref d==Value.none)=true):=Bool.false_ne_true;rw[if_neg nn];refine wpAny_bind (wpAny_pure (wpAny_bind (wpAny_dictEntries e2 HA ?_)));rw[if_neg (by simp)];refine wpAny_bind (wpAny_pure (wpAny_bind (wpAny_dictEpoch e2 HA ?_)));rw[if_neg (by simp)];refine wpAny_pure ?_;simp only[show ¬((i:Int)<0) by omega,if_false,toNat_natCast,hx];refine wpAny_bind ?_;first|refine wpAny_bind (wpAny_typeNameOfWhole_keyiter ty (wpAny_pure (wpAny_bind (wpAny_isOneOf_keyiter ty ?_))))|refine wpAny_bind (wpAny_typeNameOf_keyiter ty (wpAny_pure (wpAny_bind (wpAny_isOneOf_keyiter ty ?_))))
 refine(?_:wpAny _ _ (setField (.ref it) 1 (rawInt ((i:Int)+1)) >>= _) _ _ s);refine wpAny_bind (wpAny_setField e da (by simp) ?_);have To:(s.heap.update it (Obj.mapFields (·.setIfInBounds 1 (rawInt ((i:Int)+1))))).IsKeyIter it d (i+1) es.size ep:=⟨_,Heap.get?_update_self _ e (Obj.isFreed_of_fields (Obj.data_mapFields da _)),(Obj.cls_mapFields ..).trans c,by rw[Obj.data_mapFields da];simp[rawInt]⟩;refine wpAny_bind (wpAny_holding (wpAny_bind (wpAny_isOneOf_keyiter (s:={s with heap:=s.heap.update it (Obj.mapFields (·.setIfInBounds 1 (rawInt ((i:Int)+1))))}) To.typeIs ?_)));refine(?_:wpAny _ _ (pure x.key) _ _ _);exact wpAny_pure (wpAny_pure ⟨_,rfl,wpAny_pure (q _ To (SameBut.update ..))⟩)
variable {s:Shared} in
theorem Qi{Q:Option Value->Shared->Prop}(hh:A.handled=none)(ki:s.heap.IsKeyIter it d es.size es.size ep)(m:sY s.heap d es ep)(q:∀h',Heap.ExtBut it s.heap h'->Q none {s with heap:=h'}):wpAny (model P w) A (pyNext (.ref it)) Q E s:=by
 have ty:=ki.typeIs;obtain⟨o,e,c,da⟩:=id ki;obtain⟨o2,e2,c2,HA⟩:=id m;unfold pyNext;refine wpAny_bind (wpAny_attempt (wpAny_callSpecial?_slot (name:=Str.ofString "__next__") ty F.slot_dict_keyiterator_next (wpAny_call_entry F.slot_dict_keyiterator_next ty F.entry_dict_keyiterator_next (wpAny_bind (wpAny_pure (wpAny_bind (wpAny_bind ?_)))) (F.args_dict_keyiterator_next_1 _))));first|refine wpAny_bind (wpAny_typeNameOfWhole_keyiter ty (wpAny_pure (wpAny_bind (wpAny_fieldsOf e da ?_))))|refine wpAny_bind (wpAny_typeNameOf_keyiter ty (wpAny_pure (wpAny_bind (wpAny_fieldsOf e da ?_))))
 have ow:Builtin.Dict_items.ownsTuple "dict_keyiterator"=false:=by decide
 simp only[ow,false_eq_true,if_false];refine(?_:wpAny _ _ (if(Value.ref d==Value.none)=true then _ else _) _ _ s);have nn:¬((Value.ref d==Value.none)=true):=Bool.false_ne_true;rw[if_neg nn];refine wpAny_bind (wpAny_pure (wpAny_bind (wpAny_dictEntries e2 HA ?_)));rw[if_neg (by simp)];refine wpAny_bind (wpAny_pure (wpAny_bind (wpAny_dictEpoch e2 HA ?_)));rw[if_neg (by simp)];refine wpAny_pure ?_;simp only[show ¬((es.size:Int)<0) by omega,if_false,toNat_natCast,Array.getElem?_eq_none (le_refl es.size)];refine wpAny_bind ?_;first|refine wpAny_bind (wpAny_typeNameOfWhole_keyiter ty (wpAny_pure ?_))|refine wpAny_bind (wpAny_typeNameOf_keyiter ty (wpAny_pure ?_))
 refine(?_:wpAny _ _ (setField (.ref it) 0 .none >>= _) _ _ s);refine wpAny_bind (wpAny_setField e da (by simp) (?_:wpAny _ _ (newExc (.type "StopIteration") [] >>= _) _ _ _));refine wpAny_bind ?_;simp only[newExc,newTuple];refine wpAny_bind (wpAny_newObj_type (wpAny_bind (m:=firstArgMember _ _) (wpAny_of_eq (a:=Value.none) (by first|rfl|(simp only[firstArgMember];rfl)) (wpAny_newObj_type ?_ (by size_fits)))) (by size_fits))
 simp only[raiseNew];refine wpAny_bind (wpAny_handled ?_);have h0:A.in1.handled=none:=hh;rw[h0];refine wpAny_bind (wpAny_pure (wpAny_throw (wpAny_bind ?_)));refine wpAny_isInstance (T:="StopIteration") (b:=true) ⟨_,get?_push_size _ rfl,rfl⟩ isSubtype_stop (?_:wpAny _ _ _ _ _ _);exact wpAny_pure (q _ (((SameBut.update ..).extBut.push _).push _))
theorem sY.of(m:sY h d es ep)(k:∀o,h.get? d=some o->h'.get? d=some o):sY h' d es ep:=let ⟨o,e,r⟩:=m;⟨o,k o e,r⟩
theorem JI(hh:A.handled=none)(it d:Addr)(ne:d≠it)(es:Array DictEntry)(ep:Nat):Walks P w A it [it,d] [it] es.size (λi v=>∃x,es[i]?=some x/\v=x.key) (λi h=>h.IsKeyIter it d i es.size ep/\sY h d es ep) where
 sub:=λb hb=>by simp at hb;simp[hb]
 frame:=λ_ _ _ st k=>⟨st.1.at λo e=>k it (by simp) o e,st.2.of λo e=>k d (by simp) o e⟩
 item:=λi s Q E hi st q=>N3 st.1 st.2 (Array.getElem?_eq_getElem hi) λh' k1 sb=>q _ h' s.toks ⟨_,Array.getElem?_eq_getElem hi,rfl⟩ ⟨k1,st.2.of λo e=>sb.extBut d o ne e⟩ λb o hb e=>sb.extBut b o (λz=>hb (by simp[z])) e
 done:=λs Q E st q=>Qi hh st.1 st.2 λh' eb=>q h' s.toks λb o hb e=>eb b o (λz=>hb (by simp[z])) e
 self:=λ_ _ _ _ st q=>wpAny_pyIter_keyiter st.1 q
theorem Qh(nd:(d==sysModules)=false):PySem.W.KdlSrc P w "dict" d d es.size (λi v=>∃x,es[i]?=some x/\v=x.key) (λh=>sY h d es ep) where
 type:=λ_ m=>m.ty
 there:=λ_ ⟨_,e,_⟩=>⟨lt_size e,lt_size e⟩
 keep:=λ_ _ m k=>m.of λo e=>k d (.inl rfl) o e
 notList:=by decide
 notTuple:=by decide
 hint:=λ_ _ _ _ m q=>PySem.W.kdl_hint_dict m.ty q
 iter:=λ_ s hh m=>⟨_,_,(λ_ _ q=>N4 nd m q),JI hh _ d (let ⟨_,e,_⟩:=m;ne_of_lt (lt_size e)) es ep,⟨⟨_,get?_push_size _ rfl,rfl,rfl⟩,m.of λo e=>get?_push_of_some _ e⟩⟩
open PySem PySem.Spec PyProof.Rows L2
open PySem.W (Dat kqdOk)
def JU (w:World) (p:RK×Addr):DictEntry:=⟨rP w p.1,.ref p.2,.bool true⟩
def jy (w:World) (ks:List RK) (a:Addr) (xs:List V) (h:Heap):Prop:=
 (a==sysModules)=false/\ks.length<=sizeLine/\ks.Nodup/\∃as:List Addr,as.length=ks.length/\xs=as.map V.ref/\∃o es ep,h.get? a=some o/\o.ExactDict/\o.data=.dict es ep/\es.toList=(ks.zip as).map (JU w)
variable {ks:List RK} {a:Addr}
theorem jy.ok(m:jy w ks a xs h):gE P w H h a (.ext (jy w ks a xs)):=by
 refine⟨m,?_,λh1 h2 m1 k=>?_⟩
 ·obtain⟨_,_,_,_,_,_,o,_,_,e,_⟩:=m;exact⟨o,e⟩
 ·obtain⟨c1,c2,c3,as,c4,c5,o,es,ep,e,r⟩:=m1;exact⟨c1,c2,c3,as,c4,c5,o,es,ep,k o e,r⟩
def RR (w:World):TE:=λ_ H Q=>∀p,H p=none->Q (.ref p) (upd H p (.ext (jy w [] p [])))
theorem MD:PE X (.Dict [] [] pos) (RR X.w):=λpins s σ H Q I h=>by
 refine wpAny_Dict_empty ⟨.ref s.heap.objs.size,_,I.laid (a:=s.heap.objs.size) (o:=.ext (jy X.w [] s.heap.objs.size [])) (t':=s.toks) (λ_ _ q=>get?_push_of_some _ q) (le_refl _) (jy.ok ⟨?_,zero_le _,List.nodup_nil,[],rfl,rfl,_,#[],0,get?_push_size _ rfl,⟨rfl,rfl,rfl⟩,rfl,rfl⟩),rfl,h _ (I.bx.fresh (le_refl _))⟩;have b:=I.big;exact beq_eq_false_iff_ne.mpr (Nat.ne_of_gt b)
theorem xy:∀{ns:List Int} {ys:List V} {us:List Value},az K H Av ys (ns.map Dat.int)->Vals ys us->ItemsAre (intKind P w) ns us
 |[],_,_,.nil,.nil=>.nil
 |n::ns,_,_,.cons r1 r2,.cons v1 v2=>by
  rw[r1.cQ]at v1;obtain⟨t,rfl⟩:=v1;exact .cons (by simp[intKind,Value.isInt]) (xy r2 v2)
theorem FH{σ:L2.St}{s:Shared}(I:Inv X pins σ H s)(hk:PyData.strOk k.1=true)(r:aU X.K H Av v (dU k)):∃b,v=.ref b/\dX X.prog X.w s.heap k b:=by
 obtain⟨b,xs,rfl,hq,rs⟩:=r.fj;refine⟨b,rfl,?_⟩;obtain⟨ak,vs,⟨o,ho,hc,n,hd⟩,_⟩:=I.tuple hq.sq;cases rs with
 |cons r1 rs=>
  cases rs with
  |cons r2 rs=>
   cases rs;rw[r1.iF]at vs;obtain⟨c,ys,e2,zW,uB⟩:=r2.fj;subst e2;obtain⟨jl,Wt,⟨o2,nH,A5,n2,hd2⟩,_⟩:=I.tuple zW.sq;cases vs with
   |cons v1 vs=>
    cases vs with
    |cons v2 vs=>
     cases vs;obtain⟨t,rfl⟩:=v1;cases v2;exact⟨o,n,t,c,ho,hc,hd,⟨o2,jl.toArray,n2,nH,A5,hd2,by rw[List.toList_toArray];exact xy uB Wt⟩,hk⟩
theorem yM{pins:List (Addr×Obj)}{σ:L2.St}{s:Shared}(I:Inv X pins σ H s):∀{ks:List RK} {as:List Addr},(∀k∈ks,PyData.strOk k.1=true)->az X.K H Av (as.map V.ref) (ks.map dU)->∀p∈ks.zip as,dX X.prog X.w s.heap p.1 p.2
 |[],_,_,_,p,hp=>by simp at hp
 |k::ks,[],_,_,p,hp=>by simp at hp
 |k::ks,a::as,hs,.cons r1 r2,p,hp=>by
  rw[zip_cons_cons]at hp;rcases mem_cons.mp hp with e|hp
  ·obtain⟨b,e1,q⟩:=FH I (hs k mem_cons_self) r1;injection e1 with e1;rw[e,e1];exact q
  ·exact yM I (λk hk=>hs k (mem_cons_of_mem _ hk)) r2 p hp
def hZ (ks:List RK) (k:RK):List RK:=if k∈ks then ks else ks++[k]
def yf (ks:List RK) (xs:List V) (k:RK) (v:V):List V:=if k∈ks then xs else xs++[v]
def S1 (K:Fg) (w:World):ED:=λo i v H Q=>∃p ks xs k Av,o=.ref p/\v=.bl true/\H p=some (.ext (jy w ks p xs))/\(∀k∈ks,PyData.strOk k.1=true)/\PyData.strOk k.1=true/\az K H Av xs (ks.map dU)/\aU K H Av i (dU k)/\ks.length<sizeLine/\Q (upd H p (.ext (jy w (hZ ks k) p (yf ks xs k i))))
def q9 (ks:List RK) (as:List Addr):List (RK×Addr×Value):=(ks.zip as).map λp=>(p.1,p.2,Value.bool true)
variable {as:List Addr}
theorem sA(h:as.length=ks.length):(q9 ks as).map (·.1)=ks:=by
 unfold q9;rw[map_map];show(ks.zip as).map Prod.fst=ks;rw[List.map_fst_zip (by omega)]
theorem Nt(h:as.length=ks.length):(q9 ks as).length=ks.length:=by
 unfold q9;rw[length_map,length_zip,h,min_self]
theorem QZ(h:as.length=ks.length):(atKey (q9 ks as) k).isSome=decide (k∈ks):=by
 unfold atKey;rw[Option.isSome_map];by_cases c:k∈ks
 ·rw[decide_eq_true c];rw[<- sA h]at c;obtain⟨x,hx,e⟩:=mem_map.mp c;exact List.find?_isSome.mpr ⟨x,hx,decide_eq_true e⟩
 ·rw[decide_eq_false c];refine eq_false_iff.mpr λz=>?_;obtain⟨x,hx,e⟩:=List.find?_isSome.mp z;refine c ?_;rw[<- sA h];exact mem_map.mpr ⟨x,hx,of_decide_eq_true e⟩
theorem F5{b:Addr}(h:as.length=ks.length):storedH (q9 ks as) k b (.bool true)=q9 (hZ ks k) (if k∈ks then as else as++[b]):=by
 have e:=QZ (k:=k) h;unfold storedH hZ;by_cases c:k∈ks
 ·rw[decide_eq_true c]at e;rw[if_pos e,if_pos c,if_pos c];unfold q9;rw[map_map];refine map_congr_left λp _=>?_;show putAt k (.bool true) (p.1,p.2,.bool true)=_;unfold putAt;split<;>rfl
 ·rw[decide_eq_false c]at e;rw[if_neg (by rw[e];decide),if_neg c,if_neg c];unfold q9;rw[List.zip_append h.symm,map_append];rfl
theorem Hr:(q9 ks as).map (entryOfKey (vO P w))=(ks.zip as).map (JU w):=by
 unfold q9;rw[map_map];rfl
theorem By:∀{as:List Addr} {us:List Value},us.length=as.length->(∀(j:Nat) (a:Addr) (u:Value),as[j]?=some a->us[j]?=some u->u=.ref a)->Vals (as.map V.ref) us
 |[],[],_,_=>.nil
 |[],_::_,h,_=>by simp at h
 |_::_,[],h,_=>by simp at h
 |a::as,u::us,h,q=>.cons (q 0 a u rfl rfl) (By (by simpa using h) λj b v h1 h2=>q (j+1) b v (by simpa using h1) (by simpa using h2))
theorem Mb(hu:X.A.units+20<cLine):K4 X (S1 X.K X.w):=by
 intro pins s σ H o i v ov iv u Q I ro ri rv h;obtain⟨p,ks,xs,k,Av,rfl,rfl,hp,hs,hk,rs,rk,hz,q⟩:=h;cases ro;cases rv;obtain⟨b,rfl,hb⟩:=FH I hk rk;cases ri;obtain⟨m,_,_⟩:=(show gE X.prog X.w H s.heap p (.ext (jy X.w ks p xs))from I.bx p _ hp);obtain⟨c1,c2,c3,as,c4,rfl,o,es,ep,e,xd,da,he⟩:=m;have hm:s.heap.DictOfH (vO X.prog X.w) p (q9 ks as):=⟨o,es,ep,e,xd,da,by rw[Hr];exact he,λx hx=>by
  obtain⟨y,hy,rfl⟩:=mem_map.mp hx;exact yM I hs rs y hy,by rw[sA c4];exact c3⟩
 refine wpAny_setItem_heap (knd:=vO X.prog X.w) (show X.A.in1.units+8<cLine by first|omega|(show X.A.units+1+8<cLine;omega)) hb hm (λh' xC sb=>?_) (by rw[Nt c4];omega)
 rw[F5 c4]at xC;obtain⟨o',CT,Ho,e',Ws,Yz,Lg,_,Th⟩:=xC;have l2:(if k∈ks then as else as++[b]).length=(hZ ks k).length:=by
  unfold hZ;split
  ·exact c4
  ·rw[length_append,length_append,c4];rfl
 have n2:(hZ ks k).Nodup:=by rw[sA l2]at Th;exact Th
 have z2:(hZ ks k).length<=sizeLine:=by
  unfold hZ;split
  ·exact c2
  ·rw[length_append];show ks.length+1<=sizeLine;omega
 have x2:yf ks (as.map V.ref) k (.ref b)=(if k∈ks then as else as++[b]).map V.ref:=by
  unfold yf;split
  ·rfl
  ·rw[map_append];rfl
 refine⟨_,I.write (x:=p) (e:=p) (by rw[hp];trivial) (.inl rfl) (λc u ne ec=>(sb.2 c ne).trans ec) ⟨o',e'⟩ (jy.ok ⟨c1,z2,n2,_,l2,x2,o',CT,Ho,e',Ws,Yz,by rw[Hr]at Lg;exact Lg⟩),q⟩
theorem HQ(hh:X.A.handled=none):kH X (.type "list") (λvs H Q=>∃p ks xs,vs=[.ref p]/\H p=some (.ext (jy X.w ks p xs))/\∀l,H l=none->Q (.ref l) (upd H l (.lst xs))):=by
 intro pins s σ H vs us Q I hv h;obtain⟨p,ks,xs,rfl,hp,q⟩:=h;cases hv with
 |cons v1 v2=>
  cases v2;cases v1;obtain⟨m,_,_⟩:=(show gE X.prog X.w H s.heap p (.ext (jy X.w ks p xs))from I.bx p _ hp);obtain⟨c1,c2,c3,as,c4,rfl,o,es,ep,e,xd,da,he⟩:=m;have ez:es.size=ks.length:=by rw[<- length_toList,he,length_map,length_zip,c4,min_self]
  refine PySem.W.kdl_call (Qh (es:=es) (ep:=ep) c1) hh ⟨o,e,xd,da⟩ (by rw[ez];exact c2) λh' tk acc c' k hl hi=>?_;have hv:Vals (as.map V.ref) acc.toList:=by
   have hlen:acc.toList.length=as.length:=by rw[length_toList,hi.1,ez,c4]
   refine By hlen λj a u ha hu=>?_;obtain⟨x,hx,rfl⟩:=hi.2 j u (by rw[<- Array.getElem?_toList];exact hu);have hj:j<ks.length:=by rw[<- c4];exact(List.getElem?_eq_some_iff.mp ha).1
   have zQ:((ks.zip as).map (JU X.w))[j]?=some x:=by rw[<- he,Array.getElem?_toList];exact hx
   rw[getElem?_map]at zQ;cases hz:(ks.zip as)[j]? with
   |none=>rw[hz]at zQ;cases zQ
   |some y=>
    rw[hz]at zQ;cases zQ;have:=(List.getElem?_zip_eq_some.mp hz).2;rw[ha]at this;cases this;rfl
  refine⟨.ref s.heap.objs.size,_,I.laid (t':=tk) (a:=s.heap.objs.size) (o:=.lst (as.map V.ref)) k (le_refl _) ?_,rfl,q _ I.fresh⟩;exact⟨by rw[length_map,c4];exact c2,acc.toList,_,hv,by rw[Array.toArray_toList];exact hl⟩
open PySem PySem.Spec PyProof.Rows L2
open PySem.W (Dat kqdOk)
theorem GA.O9(G:GA K ah Av pn aF H σ Γ ad){O:Addr->List V->Heap->Prop}{p:Addr}(i:Nat)(oH:i≠0)(hp:H p=none)(r:az K H (aO Av Γ ad) xs ds):
  GA K ah Av pn aF (upd H p (.ext (O p xs))) (σ.set i (some (.ref p))) (Γ.set i (some (.obj O ds))) (λj=>if j=i then p else ad j):=by
 have sm:bg H (upd H p (.ext (O p xs))):=bM hp _;have Gp:∀j s,Γ[j]?=some (some s)->Slot.mt s=true->ad j≠p:=λj s h m=>by
  obtain⟨⟨o,b⟩,_⟩:=G.mt h m;exact bz b hp
 have kp:lN H (aO Av Γ ad) (upd H p (.ext (O p xs))) (aO Av (Γ.set i (some (.obj O ds))) (λj=>if j=i then p else ad j)):=by
  intro b o h n;refine⟨sm b o h,?_⟩;rintro(z|⟨j,es,e,m,r⟩)
  ·exact n (.inl z)
  ·rcases aS e with⟨e1,_⟩|⟨e1,q⟩
   ·have r':p=b:=by simpa [e1]using r
    exact bz h hp r'.symm
   ·have r':ad j=b:=by simpa [e1]using r
    exact n (.inr ⟨j,es,q,m,r'⟩)
 have z0:ah p=none:=by
  cases e0:ah p with
  |none=>rfl
  |some o=>have:=G.same p o e0;rw[hp]at this;cases this
 refine⟨G.same.trans sm,G.j5,by rw[length_set,length_set];exact G.len,λj d' h=>?_,λj es h=>?_,λj l es fs h1 h2 m1 m2 e=>?_,λq hq=>(G.aF q hq).mono kp,λa es e h=>?_,λj O' es h=>?_⟩
 ·rcases aS h with⟨e,q⟩|⟨e,q⟩
  ·cases q
  ·obtain⟨u,a,b⟩:=G.a7 j d' q;exact⟨u,by rw[getElem?_set_ne (Ne.symm e)];exact a,b.mono kp⟩
 ·rcases aS h with⟨e,q⟩|⟨e,q⟩
  ·cases q
  ·obtain⟨ys,a,b,c,e'⟩:=G.own j es q;refine⟨ys,?_,?_,c.mono kp,?_⟩
   ·rw[if_neg e,getElem?_set_ne (Ne.symm e)];exact a
   ·rw[if_neg e];exact sm _ _ b
   ·rw[if_neg e];exact e'
 ·rcases aS h1 with⟨e1,q1⟩|⟨e1,q1⟩
  ·rcases aS h2 with⟨e2,q2⟩|⟨e2,q2⟩
   ·rw[e1,e2]
   ·rw[if_pos e1,if_neg e2]at e;exact absurd e.symm (Gp l fs q2 m2)
  ·rcases aS h2 with⟨e2,q2⟩|⟨e2,q2⟩
   ·rw[if_neg e1,if_pos e2]at e;exact absurd e (Gp j es q1 m1)
   ·rw[if_neg e1,if_neg e2]at e;exact G.inj j l es fs q1 q2 m1 m2 e
 ·rcases aS h with⟨z,_⟩|⟨_,q⟩
  ·exact absurd z.symm oH
  ·show(if 0=i then p else ad 0)=a;rw[if_neg (Ne.symm oH)];exact G.pin a es e q
 ·have eV:=ey h;rw[length_set]at eV;rcases aS h with⟨e,q⟩|⟨e,q⟩
  ·subst e;cases q;refine⟨xs,?_,?_,r.mono kp,?_⟩
   ·rw[if_pos rfl];exact getElem?_set_self (by rw[G.len];exact eV)
   ·rw[if_pos rfl];exact eA
   ·rw[if_pos rfl];exact z0
  ·obtain⟨ys,a,b,c,e'⟩:=G.obj j O' es q;refine⟨ys,?_,?_,c.mono kp,?_⟩
   ·rw[if_neg e,getElem?_set_ne (Ne.symm e)];exact a
   ·rw[if_neg e];exact sm _ _ b
   ·rw[if_neg e];exact e'
theorem GA.HM(G:GA K ah Av pn aF H σ Γ ad){O O':Addr->List V->Heap->Prop}{es:List Dat}{ys:List V}(hi:Γ[i]?=some (some (.obj O ds)))(r:az K H (aO Av Γ ad) ys es):
  GA K ah Av pn aF (upd H (ad i) (.ext (O' (ad i) ys))) σ (Γ.set i (some (.obj O' es))) ad:=by
 have av:∀a,aO Av (Γ.set i (some (.obj O' es))) ad a->aO Av Γ ad a:=by
  rintro a (z|⟨j,fs,e,m,q⟩)
  ·exact .inl z
  ·rcases aS e with⟨e1,_⟩|⟨e1,q1⟩
   ·subst e1;exact .inr ⟨j,_,hi,rfl,q⟩
   ·exact .inr ⟨j,fs,q1,m,q⟩
 have kp:lN H (aO Av Γ ad) (upd H (ad i) (.ext (O' (ad i) ys))) (aO Av (Γ.set i (some (.obj O' es))) ad):=by
  intro b o h n;refine⟨?_,λz=>n (av b z)⟩;rw[bC λz=>n (.inr ⟨i,_,hi,rfl,z.symm⟩)];exact h
 obtain⟨NN,g1,g2,g3,g4⟩:=G.obj i O ds hi;refine⟨λb o h=>?_,G.j5,by rw[length_set];exact G.len,λj d' h=>?_,λj fs h=>?_,λj l fs gs h1 h2 m1 m2 e=>?_,λp hp=>(G.aF p hp).mono kp,λa fs e h=>?_,λj O2 fs h=>?_⟩
 ·rw[bC (bz h g4)];exact G.same b o h
 ·rcases aS h with⟨e,q⟩|⟨e,q⟩
  ·cases q
  ·obtain⟨u,a,b⟩:=G.a7 j d' q;exact⟨u,a,b.mono kp⟩
 ·rcases aS h with⟨e,q⟩|⟨e,q⟩
  ·cases q
  ·obtain⟨zs,a,b,c,e'⟩:=G.own j fs q;refine⟨zs,a,?_,c.mono kp,e'⟩;rw[bC λz=>e (G.inj j i _ _ q hi rfl rfl z)];exact b
 ·rcases aS h1 with⟨e1,q1⟩|⟨e1,q1⟩
  ·rcases aS h2 with⟨e2,q2⟩|⟨e2,q2⟩
   ·rw[e1,e2]
   ·subst e1;exact G.inj j l _ gs hi q2 rfl m2 e
  ·rcases aS h2 with⟨e2,q2⟩|⟨e2,q2⟩
   ·subst e2;exact G.inj j l fs _ q1 hi m1 rfl e
   ·exact G.inj j l fs gs q1 q2 m1 m2 e
 ·rcases aS h with⟨_,q⟩|⟨_,q⟩
  ·cases q
  ·exact G.pin a fs e q
 ·rcases aS h with⟨e,q⟩|⟨e,q⟩
  ·subst e;cases q;exact⟨ys,g1,eA,r.mono kp,g4⟩
  ·obtain⟨zs,a,b,c,e'⟩:=G.obj j O2 fs q;refine⟨zs,a,?_,c.mono kp,e'⟩;rw[bC λz=>e (G.inj j i _ _ q hi rfl rfl z)];exact b
def Kw (w:World) (i:Nat):aw->Option Fl:=λΓ=>some (.nx (Γ.set i (some (.obj (jy w []) []))))
variable {x:Str}
theorem DR(i:Nat)(hN:X.N.Nodup)(hi:X.N[i]?=some x:=by rfl)(oH:i≠0:=by decide)(hx:Loc X.env.scope x:=by first|exact .inl rfl|exact .inr rfl)(hs:swapsWith (.Dict [] [] p2) (some (.Name x pos')) pos.line X.env=pure false:=by rfl)(hf:X.fn x=true\/X.env.scope.names.lookup x=some .local:=by first|exact .inl rfl|exact .inr rfl):
  fY X (.Assign [.Name x pos'] (.Dict [] [] p2) pos) (Kw X.w i):=⟨bY (qC hN hi hx MD hs hf) λD σ H aP=>by
 obtain⟨ah,Av,pn,aF,Γ,fl,⟨ad,G⟩,hf,q⟩:=aP;cases hf;exact λp hp=>q _ _ ⟨_,G.O9 i oH hp .nil⟩⟩
def Ry (w:World) (O:Addr->List V->Heap->Prop) (ds:List Dat) (d:Dat) (p:List RK×RK):Prop:=O=jy w p.1/\ds=p.1.map dU/\d=dU p.2/\(∀k∈p.1,PyData.strOk k.1=true)/\PyData.strOk p.2.1=true/\p.1.length<sizeLine
noncomputable def uA (w:World) (i:Nat) (f:ar->Option Dat):aw->Option Fl:=open Classical in λΓ=>(f (bj Γ)).bind λd=>match Γ[i]? with
 |some (some (.obj O ds))=>if h:∃p,Ry w O ds d p then some (.nx (Γ.set i (some (.obj (jy w (hZ h.choose.1 h.choose.2)) ((hZ h.choose.1 h.choose.2).map dU)))))else none
 |_=>none
theorem FI{xs ys:List RK}(h:xs.map dU=ys.map dU):xs=ys:=(List.map_inj_right λa b e=>oZ e).mp h
theorem IE(hi:Γ[i]?=some (some (.obj (jy w ks) (ks.map dU))))(hf:f (bj Γ)=some (dU k))(h1:∀k∈ks,PyData.strOk k.1=true)(h2:PyData.strOk k.1=true)(h3:ks.length<sizeLine):
  uA w i f Γ=some (.nx (Γ.set i (some (.obj (jy w (hZ ks k)) ((hZ ks k).map dU))))):=by
 unfold uA;rw[hf,Option.bind_some,hi];have ex:∃p,Ry w (jy w ks) (ks.map dU) (dU k) p:=⟨(ks,k),rfl,rfl,rfl,h1,h2,h3⟩;refine(dif_pos ex).trans ?_;obtain⟨_,g2,g3,_⟩:=ex.choose_spec;rw[<- FI g2,<- oZ g3]
variable {k:Nat}
theorem DQ(i:Nat)(hr:cF k X.A)(pe:QF X e (fC (.bool true)))(pb:QF X b f)(hN:X.N[i]?=some x:=by rfl)(hv:n8 X.env.scope x:=by first|exact Or.inl rfl|exact Or.inr (Or.inl rfl)|exact Or.inr (Or.inr rfl))(hd:(x==("__debug__" : Str))=false:=by decide)(gB:(x==("__classdict__" : Str))=false:=by decide)(ha:∀v,assign (.Subscript (.Name x p1) b p3) X.env v=(do
   let ov <- holding [v] (eval (.Name x p1) X.env);let iv <- holding [v,ov] (eval b X.env);standAt p3
   holding [v,ov,iv] (setItem ov iv v)
   release [v,ov,iv] []):=by intro _;rfl)(hs:swapsWithSole [.Subscript (.Name x p1) b p3] e pos.line X.env=pure false:=by rfl)(hw:swappedStores [.Subscript (.Name x p1) b p3] e X.env=pure none:=by rfl)(h1:(assignEach [.Subscript (.Name x p1) b p3] X.env).map (·.2)=[assign (.Subscript (.Name x p1) b p3) X.env]:=by rfl):
  fY X (.Assign [.Subscript (.Name x p1) b p3] e pos) (uA X.w i f):=⟨bY (qE pe.o (ze (mJ hN hv hd gB) pb.o (Mb (by have:=hr.un;omega)) ha) hs hw h1) λD σ H aP=>by
 obtain⟨ah,Av,pn,aF,Γ,fl,⟨ad,G⟩,hf,q⟩:=aP;obtain⟨d,e2,ig⟩:=bind_some hf;cases hi:Γ[i]? with
 |none=>rw[hi]at ig;cases ig
 |some o=>
  cases o with
  |none=>rw[hi]at ig;cases ig
  |some sl=>
   cases sl with
   |a7 _=>rw[hi]at ig;cases ig
   |own _=>rw[hi]at ig;cases ig
   |obj O ds=>
    rw[hi]at ig;dsimp only at ig;by_cases hx:∃p,Ry X.w O ds d p
    ··rw[dif_pos hx]at ig;cases ig;obtain⟨c1,c2,c3,c4,c5,c6⟩:=hx.choose_spec;generalize hx.choose=pk at c1 c2 c3 c4 c5 c6 q;obtain⟨ks,kk⟩:=pk;dsimp only at c1 c2 c3 c4 c5 c6 q;subst c1 c2 c3;refine⟨aO Av Γ ad,bj Γ,.bool true,G.gf,G.j3,rfl,λv H' s r=>?_⟩;have G1:=G.grow s;obtain⟨xs,g1,g2,g3,g4⟩:=G1.obj i _ _ hi;refine⟨_,g1,aO Av Γ ad,bj Γ,dU kk,G1.gf,G1.j3,e2,λy H2 s2 ry=>?_⟩;have G2:=G1.grow s2;obtain⟨ys,g5,g6,g7,g8⟩:=G2.obj i _ _ hi;have rv:v=.bl true:=by cases r;rfl
      refine⟨ad i,ks,ys,kk,aO Av Γ ad,rfl,rv,g6,c4,c5,g7,ry,c6,q _ _ ⟨ad,G2.HM hi ?_⟩⟩;unfold hZ yf;split
      ·exact g7
      ·rw[map_append];exact g7.append (.cons ry .nil)
    ·rw[dif_neg hx]at ig;cases ig⟩
noncomputable def uz (w:World) (i:Nat):aw->Option Fl:=open Classical in λΓ=>match Γ[i]? with
 |some (some (.obj O ds))=>if ∃ks,O=jy w ks then some (.rt (.list ds))else none
 |_=>none
theorem IC(hi:Γ[i]?=some (some (.obj (jy w ks) ds))):uz w i Γ=some (.rt (.list ds)):=by
 unfold uz;rw[hi];exact if_pos ⟨ks,rfl⟩
theorem DO(i:Nat)(hr:cF k X.A)(hm:X.mg "list"=none)(hN:X.N[i]?=some x:=by rfl)(hv:n8 X.env.scope x:=by first|exact Or.inl rfl|exact Or.inr (Or.inl rfl)|exact Or.inr (Or.inr rfl))(hd:(x==("__debug__" : Str))=false:=by decide)(gB:(x==("__classdict__" : Str))=false:=by decide)(hg:Gl X "list":=by rfl)(he:starEach [.Name x p1] X.env=[(false,eval (.Name x p1) X.env)]:=by rfl):
  fY X (.Return (some (.Call (.Name "list" p) [.Name x p1] [] p2)) pos) (uz X.w i):=⟨bY (uH (nA (HQ hr.hd) hg hm (by decide +kernel) (kS (mJ hN hv hd gB) qJ he) (by decide) (by decide) he rfl)) λD σ H aP=>by
 obtain⟨ah,Av,pn,aF,Γ,fl,⟨ad,G⟩,hf,q⟩:=aP;unfold uz at hf;split at hf
 ·rename_i O ds hi;split at hf
  ·rename_i hx;obtain⟨ks,rfl⟩:=hx;cases hf;obtain⟨xs,g1,g2,g3,g4⟩:=G.obj i _ _ hi;exact⟨_,g1,ad i,ks,xs,rfl,g2,λl hl=>q _ _ (G.same.trans (bM hl _)) (.nZ (G.j5.same G.same) hl (g3.weak λ_ z=>.inl z))⟩
  ·cases hf
 ·cases hf⟩
theorem FQ(w:World)(i:Nat)(hN:X.N.Nodup)(hw:X.w=w:=by rfl)(hi:X.N[i]?=some x:=by rfl)(oH:i≠0:=by decide)(hx:Loc X.env.scope x:=by first|exact .inl rfl|exact .inr rfl)(hs:swapsWith (.Dict [] [] p2) (some (.Name x pos')) pos.line X.env=pure false:=by rfl)(hf:X.fn x=true\/X.env.scope.names.lookup x=some .local:=by first|exact .inl rfl|exact .inr rfl):
  fY X (.Assign [.Name x pos'] (.Dict [] [] p2) pos) (Kw w i):=hw▸DR i hN hi oH hx hs hf
theorem xk(w:World)(i:Nat)(hr:cF k X.A)(pe:QF X e (fC (.bool true)))(pb:QF X b f)(Px:X.w=w:=by rfl)(hN:X.N[i]?=some x:=by rfl)(hv:n8 X.env.scope x:=by first|exact Or.inl rfl|exact Or.inr (Or.inl rfl)|exact Or.inr (Or.inr rfl))(hd:(x==("__debug__" : Str))=false:=by decide)(gB:(x==("__classdict__" : Str))=false:=by decide)(ha:∀v,assign (.Subscript (.Name x p1) b p3) X.env v=(do
   let ov <- holding [v] (eval (.Name x p1) X.env);let iv <- holding [v,ov] (eval b X.env);standAt p3
   holding [v,ov,iv] (setItem ov iv v)
   release [v,ov,iv] []):=by intro _;rfl)(hs:swapsWithSole [.Subscript (.Name x p1) b p3] e pos.line X.env=pure false:=by rfl)(hw:swappedStores [.Subscript (.Name x p1) b p3] e X.env=pure none:=by rfl)(h1:(assignEach [.Subscript (.Name x p1) b p3] X.env).map (·.2)=[assign (.Subscript (.Name x p1) b p3) X.env]:=by rfl):
  fY X (.Assign [.Subscript (.Name x p1) b p3] e pos) (uA w i f):=Px▸DQ i hr pe pb hN hv hd gB ha hs hw h1
theorem FO(w:World)(i:Nat)(hr:cF k X.A)(hm:X.mg "list"=none)(Px:X.w=w:=by rfl)(hN:X.N[i]?=some x:=by rfl)(hv:n8 X.env.scope x:=by first|exact Or.inl rfl|exact Or.inr (Or.inl rfl)|exact Or.inr (Or.inr rfl))(hd:(x==("__debug__" : Str))=false:=by decide)(gB:(x==("__classdict__" : Str))=false:=by decide)(hg:Gl X "list":=by rfl)(he:starEach [.Name x p1] X.env=[(false,eval (.Name x p1) X.env)]:=by rfl):
  fY X (.Return (some (.Call (.Name "list" p) [.Name x p1] [] p2)) pos) (uz w i):=Px▸DO i hr hm hN hv hd gB hg he
open PySem PySem.Spec PyProof.Rows L2
open PySem.W (Dat kqdOk)
structure FnAt (K:Fg) (mg:Str->Option Value) (x:Str) (st:Stmt) (ps:List Str):Prop where
 ex:∃f fd,nM K x x st f fd/\mg x=some (.ref f)/\Binds K fd ps []
theorem Wc{f:Addr}{oc:Value}{od an:Option Addr}{sJ:Array (Option Value)}{kV doc pm bF ct:Value}(X:K.In h)(G:h.Ns mainGlobals mg)(a:nsIn K mainGlobals x=some (some (.ref f)))(l:K.lookup f=some ⟨oc,od,.func (fnOf x x (k6 st) (dj st) (bf st) .none kV doc pm an bF ct),sJ⟩)(c:codeIn K bF x=true)(k:keepIn K (.ref f)=true)(b:∀(kV doc pm:Value) (an:Option Addr) (bF ct:Value) (us:List Value),us.length=ps.length->bindArgs (fnOf x x (k6 st) (dj st) (bf st) .none kV doc pm an bF ct) ⟨us,[]⟩=pure (ps.zip us)):FnAt K mg x st ps:=
 ⟨⟨_,_,Ag l c k,mg_of X G a,(Ag l c k).binds b⟩⟩
theorem cO(N:List Str)(U:FnAt K mg x st ps)(hbody:N.Nodup->∀(fa:Addr) (bF:Value) (A:Around) (outer:List Env) (s:Shared) (H:Hp) (E:XK),cF k (A.deeper (envOfC x (bf st) s.heap.objs.size fa bF))->iE (jM jj P w K mg base N x (bf st) fa bF A outer s H E).oB (dj st) g)(S:gi N ps (bf st):=by exact⟨rfl,rfl,rfl,by decide +kernel,rfl,by decide +kernel,by decide +kernel⟩)(hn:ps.length=n:=by rfl):Dn P w K mg base (k+1) x ps n (jG N g):=by
 obtain⟨f,fd,U,hm,hB⟩:=U.ex;exact ic U hm hB S hn (hbody S.nd f) λ_ _ _ h=>h
theorem ye(N:List Str)(U:FnAt K mg x st ps)(hbody:N.Nodup->∀(fa:Addr) (bF:Value) (A:Around) (outer:List Env) (s:Shared) (H:Hp) (E:XK),cF k (A.deeper (envOfC x (bf st) s.heap.objs.size fa bF))->iE (jM jj P w K mg base N x (bf st) fa bF A outer s H E).oB (dj st) g)(S:gi N ps (bf st):=by exact⟨rfl,rfl,rfl,by decide +kernel,rfl,by decide +kernel,by decide +kernel⟩)(hn:ps.length=n:=by rfl):fM P w K mg base (k+1) x ps n (runM N g):=by
 obtain⟨f,fd,U,hm,hB⟩:=U.ex;exact rR U hm hB S hn (hbody S.nd f) λ_ _ _ _ _ h=>h
structure TC (K:Fg) (mg:Str->Option Value) (x:Str) (ds:List Dat) (a:Addr):Prop where
 mg:mg x=some (.ref a)
 tup:ModT K a ds
variable {sl:Array (Option Value)}
theorem ya{o:Option Addr}{i j:Int}{t u:Tok}(X:K.In h)(G:h.Ns mainGlobals mg)(e:nsIn K mainGlobals x=some (some (.ref a)))(l:K.lookup a=some ⟨.type "tuple",o,.seq #[.int i t,.int j u] n,sl⟩):∃a,TC K mg x [.int i,.int j] a:=
 ⟨a,mg_of X G e,⟨[.int i,.int j],_,_,_,l,rfl,rfl,Nat.le_of_lt (xc (by show 2<=1000;decide)),.cons ⟨_,rfl⟩ (.cons ⟨_,rfl⟩ .nil),λH Av=>az.ints [i,j]⟩⟩
open PySem PySem.Spec PyProof.Rows L2
open PySem.W (Dat kqdOk)
def kN (es:Array DictEntry):Bool:=es.toList.all λe=>match e.key with| .str _ _=>true|_=>false
structure wI (P:Program) (K:Fg) (mg:Str->Option Value):Prop where
 tree:P.given.tree=none
 st:∃(c:Value) (d:Option Addr) (es:Array DictEntry) (n:Nat) (sl:Array (Option Value)),K.lookup cStatics=some ⟨c,d,.dict es n,sl⟩/\kN es=true/\nsIn K cStatics "sys.audit-hooks"=some none/\nsIn K cStatics "sys.dict"=some none
 md:∃(c:Value) (d:Option Addr) (es:Array DictEntry) (n:Nat) (sl:Array (Option Value)),K.lookup sysModules=some ⟨c,d,.dict es n,sl⟩/\kN es=true/\nsIn K sysModules "_pylong"=some none
 bi:∃bm,mg "__builtins__"=some (.ref bm)/\∃(o:Obj),K.lookup bm=some o/\o.cls=.type "module"/\o.dict=some builtinsNs
theorem Me{c1 c2:Value}{d1 d2:Option Addr}{e1 e2:Array DictEntry}{l1 l2 l3:Array (Option Value)}{bm:Addr}{d3:Data}(X:K.In h)(G:h.Ns mainGlobals mg)(ht:P.given.tree=none)(s1:K.lookup cStatics=some ⟨c1,d1,.dict e1 n1,l1⟩)(s3:nsIn K cStatics "sys.audit-hooks"=some none)(s4:nsIn K cStatics "sys.dict"=some none)(s5:K.lookup sysModules=some ⟨c2,d2,.dict e2 n2,l2⟩)(s7:nsIn K sysModules "_pylong"=some none)(s8:nsIn K mainGlobals "__builtins__"=some (some (.ref bm)))(s9:K.lookup bm=some ⟨.type "module",some builtinsNs,d3,l3⟩)(s2:kN e1=true)(s6:kN e2=true):wI P K mg:=
 ⟨ht,⟨_,_,_,_,_,s1,s2,s3,s4⟩,⟨_,_,_,_,_,s5,s6,s7⟩,⟨_,mg_of X G s8,_,s9,rfl,rfl⟩⟩
theorem DE(h:kN es=true):StrKeys es:=by
 intro e he;have:=all_eq_true.mp h e (Array.mem_def.mp he);revert this;cases hk:e.key with
 |str a b=>intro _;exact⟨a,b,rfl⟩
 |_=>intro z;cases z
theorem qL{c:Value}{d:Option Addr}(X:K.In h)(l:K.lookup a=some ⟨c,d,.dict es n,sl⟩)(k:kN es=true):h.Ns a (nsFind es):=
 ⟨_,es,n,X _ _ l,rfl,DE k,λ_=>rfl⟩
theorem wI.no(S:wI P K mg)(M:Mod K mg h):h.NoSeer:=by
 obtain⟨c,d,es,n,sl,l1,k1,a1,a2⟩:=S.st;obtain⟨c',d',CT,n',T5,l2,k2,b1⟩:=S.md;obtain⟨bm,m1,o,l3,o1,o2⟩:=S.bi;have g1:=qL M.uO l1 k1;have g2:=qL M.uO l2 k2;exact⟨⟨_,g1,ns_none_of M.uO g1 a1,ns_none_of M.uO g1 a2⟩,⟨_,g2,ns_none_of M.uO g2 b1⟩,M.blt,⟨mg,bm,o,M.glob,m1,M.uO _ _ l3,o1,o2⟩⟩
def Dr (X:Cx):Prop:=∃e l,X.stack=e::l/\e.scope.isGenerator=false/\e.scope.isCoroutine=false/\e.builtins=builtinsNs/\e.globals=mainGlobals
theorem J4(S:wI X.prog X.K X.mg)(hr:cF k X.A)(hk:32<=k)(hp:Dr X):dS X (binaryOp .FloorDiv) (rI LX λi j=>.int (i.fdiv j)):=by
 intro pins s σ H x y v u Q I rx ry h;obtain⟨i,j,rfl,rfl,hc,q⟩:=h;obtain⟨t,rfl⟩:=rx;obtain⟨t',rfl⟩:=ry;obtain⟨e,l,h1,h2,h3,h4,h5⟩:=hp;have hd:X.A.depth+Builtin.pylongFrames<recursionLimit:=by
  have:=hr.dp;show X.A.depth+100<_;omega
 exact floordiv_int hc ⟨.int (i.fdiv j),H,I.tok _,⟨_,rfl⟩,q⟩ (.inr (PylongRoom.of I.nolimit hd (SeerAt.of ((S.no I.mod).keeps I.bk) S.tree (by rw[I.ok.frames,h1]) h2 h3 h4 h5)))
noncomputable abbrev si:Dat->Dat->Option Dat:=iD LX λi j=>.int (i.fdiv j)
variable {a:Expr}
theorem gu(S:wI X.prog X.K X.mg)(hr:cF k X.A)(ha:QF X a fa)(hb:QF X b fb)(hk:32<=k:=by decide)(hp:Dr X:=by exact⟨_,_,rfl,rfl,rfl,rfl,rfl⟩):QF X (.BinOp a .FloorDiv b pos) (f2 si fa fb):=⟨lu (J4 S hr hk hp) p7 ha.o hb.o⟩
open PySem PySem.Spec PyProof.Rows L2
open PySem.W (Dat kqdOk)
theorem DS(i:Nat)(hc:X.calm=true)(B:qg X scope cl N' (some i::cA))(hi:LO X tg iter hI)(hg:∀C aL ah ex,QG (dt X scope cl N' C aL ah ex) tg (iQ X.K gt))(he:∀C aL ah ex,QH (dt X scope cl N' C aL ah ex) elt fe)(hT:kD gt (some i::cA))(hs:∀x,foldedSetIterable iter X.env x=pure x:=by intro _;rfl):QE X (.ListComp elt [⟨tg,iter,[],0⟩] scope pos) (F3 X.K (v8 i cA gt fe hI)):=
 ⟨bp (rW hc B hi.o (λC aL ah ex=>(hg C aL ah ex).o) (λ_ _ _ _=>rS) (λC aL ah ex=>(he C aL ah ex).o) hs) (M9 hT)⟩
open PySem PySem.Spec PyProof.Rows L2
open PySem.W (Dat kqdOk)
def DH (gt:Dat->Option cN) (gb:aw->Option Fl) (hI:aw->Option (List Dat×aw)):aw->Option Fl:=λΓ=>(hI Γ).bind λp=>forL gt gb p.1 p.2
theorem xj(hp:PassesOwn (model X.prog X.w) X.A X.env X.xe)(hc:X.calm=true)(hi:LO X tg iter hI)(hg:QG X tg (iQ X.K gt))(hb:iE X body gb)(hs:∀x,foldedSetIterable iter X.env x=pure x:=by intro _;rfl):fY X (.For tg iter body [] pos) (DH gt gb hI):=⟨bY (uI hp hc hi.o hg.o hb.o hs) λD σ H aP=>by
 obtain⟨ah,Av,pn,aF,Γ,fl,⟨ad,G⟩,hf,q⟩:=aP;obtain⟨⟨ds,Γ1⟩,e1,hf⟩:=bind_some hf;exact⟨ah,Av,pn,aF,Γ,ad,ds,Γ1,G,e1,λJ xs jZ H1 fJ G1 rx ov=>v9 ov G1 rx hf q⟩⟩
def Q4 (h:HF):aw->Option (List Dat×aw):=λΓ=>(h Γ).bind λp=>(cI p.1).map λak=>(ak,p.2)
theorem IL(h:QH X iter ha):LO X tg iter (Q4 ha):=⟨kR (qF h.o) λσ H R aP=>by
 obtain⟨ah,Av,pn,aF,Γ,ad,ak,af,G,hf,q⟩:=aP;obtain⟨⟨d,Γ1⟩,e1,hf⟩:=bind_some hf;obtain⟨its',e2,hf⟩:=ba hf;obtain⟨h1,h2⟩:=Prod.mk.inj hf;subst h1 h2;refine⟨ah,Av,pn,aF,Γ,ad,d,Γ1,G,e1,λx H1 fJ G1 r=>?_⟩;dsimp only at e2;cases d with
 |list cU=>
  cases e2;obtain⟨a,xs,rfl,hq,rs⟩:=r.g9;exact⟨a,rfl,.inl ⟨⟨xs,hq.sq⟩,q _ [_] [_] H1 fJ G1 (.cons r .nil) nB.s⟩⟩
 |tuple cU=>
  cases e2;obtain⟨a,xs,rfl,hq,rs⟩:=r.fj;exact⟨a,rfl,.inr ⟨⟨xs,hq.sq⟩,q _ [_] [_] H1 fJ G1 (.cons r .nil) p4.s⟩⟩
 |_=>cases e2⟩
open PySem PySem.Spec PyProof.Rows L2
open PySem.W (Dat kqdOk)
theorem GA.q5(G:GA K ah Av pn aF H σ Γ ad)(hi:Γ[i]?=some (some (.own ds))):GA K ah Av pn aF H σ (Γ.set i (some (.a7 (.list ds)))) ad:=by
 obtain⟨xs,a1,a2,a3,a4⟩:=G.own i ds hi;have na:¬aO Av (Γ.set i (some (.a7 (.list ds)))) ad (ad i):=by
  rintro(z|⟨j,s,e,m,r⟩)
  ·obtain⟨o,ho⟩:=G.j5 _ z;rw[a4]at ho;cases ho
  ·rcases aS e with⟨_,q⟩|⟨ne,q⟩
   ·cases q;cases m
   ·exact ne (G.inj j i s (.own ds) q hi m rfl r)
 refine⟨G.same,G.j5,by rw[length_set];exact G.len,λj d' h=>?_,λj cU h=>?_,λj k s t h1 h2 m1 m2 e=>?_,λp hp=>(G.aF p hp).weak aO.fO,λa cU e h=>?_,λj O cU h=>?_⟩
 ·rcases aS h with⟨e,q⟩|⟨e,q⟩
  ·subst e;cases q;exact⟨_,a1,.lst (.inl ⟨.inl a2,na⟩) (a3.weak aO.fO)⟩
  ·obtain⟨u,a,b⟩:=G.a7 j d' q;exact⟨u,a,b.weak aO.fO⟩
 ·rcases aS h with⟨e,q⟩|⟨e,q⟩
  ·cases q
  ·obtain⟨xs,a,b,c,e'⟩:=G.own j cU q;exact⟨xs,a,b,c.weak aO.fO,e'⟩
 ·rcases aS h1 with⟨_,q⟩|⟨_,q1⟩
  ·cases q;cases m1
  rcases aS h2 with⟨_,q⟩|⟨_,q2⟩
  ·cases q;cases m2
  exact G.inj j k s t q1 q2 m1 m2 e
 ·rcases aS h with⟨_,q⟩|⟨_,q⟩
  ·cases q
  ·exact G.pin a cU e q
 ·rcases aS h with⟨_,q⟩|⟨_,q⟩
  ·cases q
  ·obtain⟨xs,a,b,c,e'⟩:=G.obj j O cU q;exact⟨xs,a,b,c.weak aO.fO,e'⟩
def qV (i:Nat) (Γ:aw):aw:=match Γ[i]? with
 |some (some (.own ds))=>Γ.set i (some (.a7 (.list ds)))
 |_=>Γ
theorem GA.qV(G:GA K ah Av pn aF H σ Γ ad)(i:Nat):GA K ah Av pn aF H σ (L3.qV i Γ) ad:=by
 unfold L3.qV;split
 ·rename_i ds hi;exact G.q5 hi
 ·exact G
variable {h:HF}
theorem FP(i:Nat)(pe:QH X e h):fY X (.Return (some e) pos) (λΓ=>oX h (qV i Γ)):=⟨bY (yZ pe.o) λD σ H ⟨ah,Av,pn,aF,Γ,fl,⟨ad,G⟩,hf,q⟩=>⟨ah,Av,pn,aF,qV i Γ,fl,⟨ad,G.qV i⟩,hf,q⟩⟩
open PySem PySem.Spec PyProof.Rows L2
open PySem.W (Dat kqdOk)
def lJ (is:List Nat) (Γ:aw):aw:=is.foldl (λΓ i=>qV i Γ) Γ
open PySem PySem.Spec PyProof.Rows L2
open PySem.W (Dat kqdOk)
theorem Je(l:Addr)(items:Array Value)(n:Nat)(dd:Option Addr)(sl:Array (Option Value))(u:Tok)(v7:¬items.isEmpty=true):
  Meets (Builtin.«tuple.__mul__» ⟨[.ref l,.int 0 u],[]⟩) (λ_ R s=>s.heap.get? l=some {cls:=.type "tuple",dict:=dd,data:=.seq items n,slots:=sl}/\R (.ok (.ret (Value.ref s.heap.objs.size))) {s with heap:=s.heap.push {cls:=Value.type "tuple",data:=Data.seq #[]}}):=
 .of_wp λprog w A R s h=>by
  obtain⟨hp,g,d,tk,os⟩:=s;obtain⟨hl,h⟩:=h;have f1:=AutoSeq1.idx_int;have f2:=AutoSeq1.sub_tuple_tuple;have c0:¬((decide ((0:Int) < -(2^63)) || decide ((0:Int)>=2^63))=true):=by decide
  have c1:¬((items.isEmpty || (0:Int)==1)=true):=by simp at v7 ⊢;exact v7
  have c2:(decide ((0:Int)<=0) || items.isEmpty)=true:=by simp
  wp_walk using wpAny_loadPart' hl
  exact⟨_,rfl,h⟩
def Ky (K:Fg):R2:=λx y H Q=>∃l xs,x=.ref l/\y=.int 0/\iN K H l xs/\xs≠[]/\∀p,H p=none->Q (.ref p) (upd H p (.tup []))
theorem MJ:dS X (binaryOp .Mult) (Ky X.K):=by
 intro pins s σ H x y v u Q I rx ry h;obtain⟨l,xs,rfl,rfl,hH,cw,q0⟩:=h;cases rx;obtain⟨t,rfl⟩:=ry;obtain⟨ak,r,p1,_⟩:=I.tuple hH;obtain⟨⟨cls,dd,data,sl⟩,ho,hc,n,hd⟩:=p1;simp only at hc hd;subst hc hd;have hv:ak≠[]:=λz=>cw (r.mn.mp z);refine wpAny_binaryOp_repeat_ref (T:="tuple") (U:="int") (by decide) ⟨_,ho,rfl⟩ (λs'=>typeIs_int s' 0 t) oC F.fills_int_mul F.slot_int_rmul uE F.slot_int_index.lookup
  (call_meets F.slot_int_rmul (typeIs_int s 0 t) F.entry_int_rmul (F.args_int_rmul_2 _ _) (yN 0 t l ak.toArray n dd sl) ⟨ho,rfl,⟨_,ho,rfl⟩,?_⟩)
 refine call_meets F.slot_tuple_mul ⟨_,ho,rfl⟩ F.entry_tuple_mul (F.args_tuple_mul_2 _ _) (Je l ak.toArray n dd sl t (by simpa using hv)) ⟨ho,?_⟩;refine⟨.ref s.heap.objs.size,upd H s.heap.objs.size (.tup []),I.laid (t':=s.toks) (λb u e=>get?_push_of_some _ e) (le_refl _) ?_,rfl,q0 _ I.fresh⟩;exact⟨zero_le _,[],.nil,⟨_,get?_push_size _ rfl,rfl,_,rfl⟩⟩
def yQ:Dat->Dat->Option Dat
 | .tuple ds,.int k=>if ds≠[]/\0<=k/\k<=1000/\ds.length*k.toNat<=sizeLine then some (.tuple (List.replicate k.toNat ds).flatten)else none
 |_,_=>none
theorem J5:lU X.K (λx y H Q=>Ky X.K x y H Q\/Kx X.K x y H Q) yQ:=by
 intro H Av x y dx dy d Q hA rx ry h q;unfold yQ at h;split at h
 ·rename_i ds k;split at h
  ·rename_i hz;cases h;obtain⟨l,xs,rfl,hq,rs⟩:=rx.fj;obtain⟨h0,h1,h2,h3⟩:=hz;have cw:xs≠[]:=λz=>h0 (by subst z;cases rs;rfl);by_cases c:k=0
   ·subst c;exact .inl ⟨l,xs,rfl,ry.cQ,hq.sq,cw,λp hp=>q _ _ (bM hp _) (.pd hA hp .nil)⟩
   ·refine .inr ⟨l,k,xs,rfl,ry.cQ,hq.sq,cw,by omega,by omega,by rw[rs.length];exact h3,λe=>?_,λ_ p hp=>q _ _ (bM hp _) (.pd hA hp (rs.rep _))⟩;subst e;have e1:(List.replicate (1:Int).toNat ds).flatten=ds:=by simp
    rw[e1]at q;exact q _ H (bg.refl H) (.tup hq rs)
  ·cases h
 ·cases h
theorem yT(pa:QF X a fa)(pb:QF X b fb):QF X (.BinOp a .Mult b pos) (f2 yQ fa fb):=⟨lu (MJ.or MI) J5 pa.o pb.o⟩
theorem IH(d:Dat)(k:Nat)(hk:k<=1000)(hz:1000<=sizeLine):yQ (.tuple [d]) (.int k)=some (.tuple (List.replicate k d)):=by
 have e:(List.replicate ((k:Int)).toNat [d]).flatten=List.replicate k d:=by
  rw[toNat_natCast];clear hk hz;induction k with
  |zero=>rfl
  |succ k ih=>rw[replicate_succ,replicate_succ,flatten_cons,ih];rfl
 show(if[d]≠[]/\0<=(k:Int)/\(k:Int)<=1000/\[d].length*((k:Int)).toNat<=sizeLine then some (Dat.tuple (List.replicate ((k:Int)).toNat [d]).flatten)else none)=_;rw[e];exact if_pos ⟨by simp,by omega,by omega,by rw[toNat_natCast,length_singleton,one_mul];exact le_trans hk hz⟩
theorem Iw{aW:List (Option Nat)}(hi:aW[i]?=some none)(hj:aW[j]?=some none)(hk:aW[k]?=some none):kD (jQ 3 (fF (aName i) (fF (aName j) (fF (aName k) lM)))) aW:=λd as e p hp=>by
 unfold jQ at e;split at e
 ·split at e
  ·rename_i ds hl;match ds,hl with
   |[a,b,c],_=>
    cases e;rcases mem_cons.mp hp with e|hp
    ·rw[e];exact hi
    ·rcases mem_cons.mp hp with e|hp
     ·rw[e];exact hj
     ·rcases mem_cons.mp hp with e|hp
      ·rw[e];exact hk
      ·simp at hp
  ·cases e
 ·cases e
end
end L3
namespace Fr
noncomputable section
theorem Ad(a b:Int)(hb:0<b):gcd b (a.fmod b)=gcd a b:=by
 rw[Int.fmod_eq_emod_of_nonneg a (Int.le_of_lt hb)];apply Nat.dvd_antisymm
 ·apply Int.dvd_gcd
  ·have h1:=gcd_dvd_left b (a % b);have h2:=gcd_dvd_right b (a % b);have e:a=a % b+b*(a/b):=(Int.emod_add_mul_ediv a b).symm;have h3:(↑(b.gcd (a % b)):Int)∣a % b+b*(a/b):=Int.dvd_add h2 (Int.dvd_mul_of_dvd_left h1);rw[<- e]at h3;exact h3
  ·exact gcd_dvd_left b (a % b)
 ·apply Int.dvd_gcd
  ·exact gcd_dvd_right a b
  ·have h1:=gcd_dvd_left a b;have h2:=gcd_dvd_right a b;have e:a % b=a-b*(a/b):=by have:=Int.emod_add_mul_ediv a b;omega
   rw[e];exact Int.dvd_sub h1 (Int.dvd_mul_of_dvd_left h2)
def dv (n d:Int):Int:=if d<0 then -(gcd n d:Int)else(gcd n d:Int)
def num (n d:Int):Int:=n.fdiv (dv n d)
def den (n d:Int):Int:=d.fdiv (dv n d)
variable {n d:Int}
theorem mv(h:d≠0):0<gcd n d:=Nat.pos_of_ne_zero λe=>h (by
 have:=gcd_dvd_right n d;rw[e]at this;exact Int.zero_dvd.mp this)
theorem LD(h:d≠0):dv n d≠0:=by
 have:=mv (n:=n) h;unfold dv;split<;>omega
theorem yo(n d:Int):dv n d∣n:=by
 unfold dv;split
 ·exact Int.neg_dvd.mpr (gcd_dvd_left n d)
 ·exact gcd_dvd_left n d
theorem yn(n d:Int):dv n d∣d:=by
 unfold dv;split
 ·exact Int.neg_dvd.mpr (gcd_dvd_right n d)
 ·exact gcd_dvd_right n d
theorem num_mul(n d:Int):num n d*dv n d=n:=by
 unfold num;rw[Int.fdiv_eq_ediv_of_dvd (yo n d)];exact Int.ediv_mul_cancel (yo n d)
theorem den_mul(n d:Int):den n d*dv n d=d:=by
 unfold den;rw[Int.fdiv_eq_ediv_of_dvd (yn n d)];exact Int.ediv_mul_cancel (yn n d)
theorem den_pos(h:d≠0):0<den n d:=by
 have e:=den_mul n d;have g:=mv (n:=n) h;by_cases hd:d<0
 ·have e2:dv n d=-(gcd n d:Int):=by unfold dv;exact if_pos hd
  have Jq:dv n d<0:=by omega
  rcases Int.lt_trichotomy (den n d) 0 with q|q|q
  ·have:=Int.mul_pos_of_neg_of_neg q Jq;omega
  ·rw[q]at e;simp at e;omega
  ·exact q
 ·have e2:dv n d=(gcd n d:Int):=by unfold dv;exact if_neg hd
  have qS:0<dv n d:=by omega
  rcases Int.lt_trichotomy (den n d) 0 with q|q|q
  ·have:=Int.mul_neg_of_neg_of_pos q qS;omega
  ·rw[q]at e;simp at e;omega
  ·exact q
theorem vf(n d:Int):(dv n d).natAbs=gcd n d:=by
 unfold dv;split<;>simp
theorem AB(h:d≠0):gcd (num n d) (den n d)=1:=by
 unfold num den;rw[Int.fdiv_eq_ediv_of_dvd (yo n d),Int.fdiv_eq_ediv_of_dvd (yn n d),Int.gcd_ediv (yo n d) (yn n d),vf];exact Nat.div_self (mv h)
theorem Ep(n d:Int):num n d*d=den n d*n:=by
 have e1:=num_mul n d;have e2:=den_mul n d;calc num n d*d=num n d*(den n d*dv n d):=by rw[e2]
  _=den n d*(num n d*dv n d):=by rw[Int.mul_left_comm]
  _=den n d*n:=by rw[e1]
theorem uniq{p q:Int}(hd:d≠0)(hq:0<q)(hc:gcd p q=1)(h:p*d=q*n):num n d=p/\den n d=q:=by
 have hx:=Ep n d;have hk:=AB (n:=n) hd;have A3:=den_pos (n:=n) hd

 have key:p*den n d=q*num n d:=by
  have a1:(p*den n d)*d=(q*num n d)*d:=by
   calc (p*den n d)*d=(p*d)*den n d:=by rw[Int.mul_right_comm]
    _=(q*n)*den n d:=by rw[h]
    _=q*(den n d*n):=by rw[Int.mul_assoc,mul_comm n]
    _=q*(num n d*d):=by rw[hx]
    _=(q*num n d)*d:=by rw[Int.mul_assoc]
  exact Int.eq_of_mul_eq_mul_right hd a1
 have n1:q.natAbs∣(den n d).natAbs:=by
  have z:q.natAbs∣p.natAbs*(den n d).natAbs:=by
   rw[<- natAbs_mul,key,natAbs_mul];exact Nat.dvd_mul_right _ _
  have c:Nat.Coprime q.natAbs p.natAbs:=by
   show Nat.gcd q.natAbs p.natAbs=1;rw[Nat.gcd_comm];exact hc
  exact c.dvd_of_dvd_mul_left z
 have n2:(den n d).natAbs∣q.natAbs:=by
  have z:(den n d).natAbs∣q.natAbs*(num n d).natAbs:=by
   rw[<- natAbs_mul,<- key,natAbs_mul];exact Nat.dvd_mul_left _ _
  have c:Nat.Coprime (den n d).natAbs (num n d).natAbs:=by
   show Nat.gcd (den n d).natAbs (num n d).natAbs=1;rw[Nat.gcd_comm];exact hk
  exact c.dvd_of_dvd_mul_right z
 have e1:den n d=q:=by
  have:=Nat.dvd_antisymm n1 n2;omega
 refine⟨?_,e1⟩;rw[e1]at key;have:q*p=q*num n d:=by rw[mul_comm q p];exact key
 exact(Int.eq_of_mul_eq_mul_left (ne_of_gt hq) this).symm
theorem self{p q:Int}(hq:0<q)(hc:gcd p q=1):num p q=p/\den p q=q:=uniq (ne_of_gt hq) hq hc (mul_comm p q)
theorem turned(h:d≠0):num (0-n) (0-d)=num n d/\den (0-n) (0-d)=den n d:=by
 refine uniq (by omega) (den_pos h) (AB h) ?_;have:=Ep n d;rw[Int.mul_sub,Int.mul_sub,this,mul_zero,mul_zero]
theorem pN(h:d≠0):(num n d).natAbs<=n.natAbs:=by
 have e:=congrArg Int.natAbs (num_mul n d);rw[natAbs_mul]at e;have:1<=(dv n d).natAbs:=by rw[vf];exact mv h
 calc (num n d).natAbs=(num n d).natAbs*1:=(mul_one _).symm
  _<=(num n d).natAbs*(dv n d).natAbs:=mul_le_mul_left _ this
  _=n.natAbs:=e
theorem pO(h:d≠0):(den n d).natAbs<=d.natAbs:=by
 have e:=congrArg Int.natAbs (den_mul n d);rw[natAbs_mul]at e;have:1<=(dv n d).natAbs:=by rw[vf];exact mv h
 calc (den n d).natAbs=(den n d).natAbs*1:=(mul_one _).symm
  _<=(den n d).natAbs*(dv n d).natAbs:=mul_le_mul_left _ this
  _=d.natAbs:=e
end
end Fr
namespace Fr
noncomputable section
def nd:List (Int×Int)->Int×Int
 |[]=>(0,1)
 |x::l=>(x.1*(nd l).2+(nd l).1*x.2,x.2*(nd l).2)
theorem congr{n d n' d':Int}(h:d≠0)(h':d'≠0)(e:n*d'=n'*d):num n d=num n' d'/\den n d=den n' d':=by
 have c:=Ep n' d';refine uniq h (den_pos h') (AB h') ?_

 have:(num n' d'*d)*d'=(den n' d'*n)*d':=by
  calc (num n' d'*d)*d'=(num n' d'*d')*d:=by grind
   _=(den n' d'*n')*d:=by rw[c]
   _=den n' d'*(n'*d):=by grind
   _=den n' d'*(n*d'):=by rw[e]
   _=(den n' d'*n)*d':=by grind
 exact Int.eq_of_mul_eq_mul_right h' this
end
end Fr
namespace Fr
noncomputable section
theorem jr(q:Rat):(q.num:Rat)=q*(q.den:Rat):=by
 have e:q=(q.num:Rat)/(q.den:Rat):=by rw[<- Rat.mkRat_eq_div,mkRat_self]
 have h:(q.den:Rat)≠0:=λz=>q.den_nz (Rat.natCast_eq_zero_iff.mp z);generalize (q.num:Rat)=a at *;generalize (q.den:Rat)=b at *;grind
theorem zx(n:Int)(d:Nat)(h:d≠0):num n d=(mkRat n d).num/\den n d=((mkRat n d).den:Int):=by
 refine uniq (by omega) (by have:=(mkRat n d).den_pos;omega) ?_ ?_
 ·have:=(mkRat n d).reduced;show Nat.gcd _ _=1;rw[natAbs_natCast];exact this
 ·have e:=(Rat.mkRat_eq_iff (mkRat n d).den_nz h).mp (mkRat_self (mkRat n d));rw[e];exact mul_comm _ _
theorem BX(a b:Rat):num (a.num*b.den+b.num*a.den) (a.den*b.den)=(a+b).num/\den (a.num*b.den+b.num*a.den) (a.den*b.den)=((a+b).den:Int):=by
 have:=zx (a.num*b.den+b.num*a.den) (a.den*b.den) (Nat.mul_ne_zero a.den_nz b.den_nz);rw[Rat.add_def'];rw[natCast_mul]at this;exact this
theorem BU(a b:Rat):num (a.num*b.den-b.num*a.den) (a.den*b.den)=(a-b).num/\den (a.num*b.den-b.num*a.den) (a.den*b.den)=((a-b).den:Int):=by
 have:=zx (a.num*b.den-b.num*a.den) (a.den*b.den) (Nat.mul_ne_zero a.den_nz b.den_nz);rw[Rat.sub_def'];rw[natCast_mul]at this;exact this
theorem BV(a b:Rat):num (a.num*b.num) (a.den*b.den)=(a*b).num/\den (a.num*b.num) (a.den*b.den)=((a*b).den:Int):=by
 have:=zx (a.num*b.num) (a.den*b.den) (Nat.mul_ne_zero a.den_nz b.den_nz);rw[Rat.mul_def'];rw[natCast_mul]at this;exact this
theorem jt(n d:Int)(h:d≠0):num n d=((n:Rat)/(d:Rat)).num/\den n d=(((n:Rat)/(d:Rat)).den:Int):=by
 have hd:(d:Rat)≠0:=λz=>h (Rat.intCast_eq_zero_iff.mp z);generalize hq:(n:Rat)/(d:Rat)=q;refine uniq h (by have:=q.den_pos;omega) ?_ ?_
 ·have:=q.reduced;show Nat.gcd _ _=1;rw[natAbs_natCast];exact this
 ·have e1:q*(d:Rat)=(n:Rat):=by rw[<- hq];exact Rat.div_mul_cancel hd
  have e2:(q.num:Rat)=q*(q.den:Rat):=jr q;have e3:((q.num*d:Int):Rat)=((q.den*n:Int):Rat):=by
   rw[intCast_mul,intCast_mul,e2,<- e1];have:(((q.den:Int)):Rat)=(q.den:Rat):=rfl;rw[this];grind
  exact Rat.intCast_inj.mp e3
theorem BW(a b:Rat)(h:b.num≠0):num (a.num*b.den) (a.den*b.num)=(a/b).num/\den (a.num*b.den) (a.den*b.num)=((a/b).den:Int):=by
 have hd:(a.den:Int)*b.num≠0:=mul_ne_zero (by have:=a.den_pos;omega) h;have:=jt (a.num*b.den) (a.den*b.num) hd;have e:((a.num*b.den:Int):Rat)/((a.den*b.num:Int):Rat)=a/b:=by
  have a1:=(jr a).symm;have b1:=(jr b).symm;have ad:(a.den:Rat)≠0:=λz=>by
   have:=a.den_pos;have z':((a.den:Int):Rat)=0:=z;have:=Rat.intCast_eq_zero_iff.mp z';omega
  have bd:(b.den:Rat)≠0:=λz=>by
   have:=b.den_pos;have z':((b.den:Int):Rat)=0:=z;have:=Rat.intCast_eq_zero_iff.mp z';omega
  rw[intCast_mul,intCast_mul,<- a1,<- b1];have c1:(((b.den:Int)):Rat)=(b.den:Rat):=rfl;have c2:(((a.den:Int)):Rat)=(a.den:Rat):=rfl;rw[c1,c2];have b0:b≠0:=λz=>h (by rw[z];rfl);grind
 rw[e]at this;exact this
theorem yR(a b:Rat):(a<b)↔a.num*b.den<b.num*a.den:=Rat.lt_iff a b
end
end Fr
namespace FM
noncomputable section
def sm:Nat->(Nat->Rat)->Rat
 |0,_=>0
 |k+1,f=>sm k f+f k
theorem aQ{f g:Nat->Rat}:∀{k:Nat},(∀i,i<k->f i=g i)->sm k f=sm k g
 |0,_=>rfl
 |k+1,h=>by
  show sm k f+f k=sm k g+g k;rw[aQ (λi hi=>h i (by omega)),h k (by omega)]
theorem gh{f:Nat->Rat}:∀{k:Nat},(∀i,i<k->f i=0)->sm k f=0
 |0,_=>rfl
 |k+1,h=>by
  show sm k f+f k=0;rw[gh (λi hi=>h i (by omega)),h k (by omega)];grind
theorem dZ{f g:Nat->Rat}:∀k:Nat,sm k (λi=>f i+g i)=sm k f+sm k g
 |0=>by show(0:Rat)=0+0;grind
 |k+1=>by
  show sm k (λi=>f i+g i)+(f k+g k)=(sm k f+f k)+(sm k g+g k);rw[dZ k];grind
theorem bD{f:Nat->Rat}(c:Rat):∀k:Nat,sm k (λi=>c*f i)=c*sm k f
 |0=>by show(0:Rat)=c*0;grind
 |k+1=>by
  show sm k (λi=>c*f i)+c*f k=c*(sm k f+f k);rw[bD c k];grind
theorem DF{f g:Nat->Rat}:∀{k:Nat},(∀i,i<k->f i<=g i)->sm k f<=sm k g
 |0,_=>by show(0:Rat)<=0;grind
 |k+1,h=>by
  have:=DF (k:=k) λi hi=>h i (by omega);have:=h k (by omega);show sm k f+f k<=sm k g+g k;grind
theorem Kv{f g:Nat->Rat}:∀{k:Nat},(∀i,i<k->f i<=g i)->(∃i,i<k/\f i<g i)->sm k f<sm k g
 |0,_,⟨i,hi,_⟩=>by omega
 |k+1,h,⟨i,hi,hl⟩=>by
  have h1:=h k (by omega);show sm k f+f k<sm k g+g k;by_cases e:i=k
  ·subst e;have:=DF (k:=i) λj hj=>h j (by omega);grind
  ·have:=Kv (k:=k) (λj hj=>h j (by omega)) ⟨i,by omega,hl⟩;grind
theorem Fq{f g:Nat->Rat}{p:Nat}{v:Rat}:∀{k:Nat},p<k->sm k (λi=>(if i=p then v else f i)*g i)=sm k (λi=>f i*g i)+(v-f p)*g p
 |0,h=>by omega
 |k+1,h=>by
  show sm k (λi=>(if i=p then v else f i)*g i)+(if k=p then v else f k)*g k=(sm k (λi=>f i*g i)+f k*g k)+(v-f p)*g p;by_cases e:k=p
  ·rw[aQ (g:=λi=>f i*g i) (λi hi=>by rw[if_neg (by omega)]),if_pos e,<- e];grind
  ·rw[Fq (k:=k) (by omega),if_neg e];grind
theorem vJ{f:Nat->Nat->Rat}(m:Nat):∀k:Nat,sm k (λi=>sm m (λc=>f i c))=sm m (λc=>sm k (λi=>f i c))
 |0=>(gh λ_ _=>rfl).symm
 |k+1=>by
  show sm k (λi=>sm m (λc=>f i c))+sm m (λc=>f k c)=_;rw[vJ m k,<- dZ];rfl
theorem yE{f:Nat->Rat}{p:Nat}:∀{k:Nat},p<k->sm k f=sm k (λi=>if i=p then 0 else f i)+f p
 |0,h=>by omega
 |k+1,h=>by
  show sm k f+f k=(sm k (λi=>if i=p then 0 else f i)+(if k=p then 0 else f k))+f p;by_cases e:k=p
  ·rw[aQ (f:=λi=>if i=p then 0 else f i) (g:=f) (λi hi=>if_neg (by omega)),if_pos e,<- e];grind
  ·rw[yE (k:=k) (p:=p) (by omega),if_neg e];grind
theorem Ao{P:Nat->Prop}(f:Nat->Rat):∀{k:Nat},(∃i,i<k/\P i)->∃i,i<k/\P i/\∀j,j<k->P j->f i<=f j
 |0,⟨i,hi,_⟩=>by omega
 |k+1,⟨i,hi,hp⟩=>by
  by_cases h:∃i,i<k/\P i
  ·obtain⟨m,hm,pm,lm⟩:=Ao f h;by_cases c:P k/\f k<f m
   ·refine⟨k,by omega,c.1,λj hj pj=>?_⟩;by_cases e:j=k
    ·subst e;grind
    ·have:=lm j (by omega) pj;grind
   ·refine⟨m,by omega,pm,λj hj pj=>?_⟩;by_cases e:j=k
    ·subst e;have:¬f j<f m:=λz=>c ⟨pj,z⟩;grind
    ·exact lm j (by omega) pj
  ·have e:i=k:=by
    by_cases e:i=k
    ·exact e
    ·exact absurd ⟨i,by omega,hp⟩ h
   subst e;refine⟨i,by omega,hp,λj hj pj=>?_⟩;by_cases e:j=i
   ·subst e;grind
   ·exact absurd ⟨j,by omega,pj⟩ h
def cnt:Nat->(Nat->Rat)->Nat
 |0,_=>0
 |k+1,u=>cnt k u+(if u k=0 then 0 else 1)
theorem AE{u v:Nat->Rat}:∀{k:Nat},(∀i,i<k->u i=0->v i=0)->cnt k v<=cnt k u
 |0,_=>le_refl _
 |k+1,h=>by
  have h1:=AE (k:=k) λi hi=>h i (by omega);show cnt k v+(if v k=0 then 0 else 1)<=cnt k u+(if u k=0 then 0 else 1);by_cases e:u k=0
  ·rw[if_pos e,if_pos (h k (by omega) e)];omega
  ·rw[if_neg e];split<;>omega
theorem vh{u v:Nat->Rat}:∀{k:Nat},(∀i,i<k->u i=0->v i=0)->(∃i,i<k/\v i=0/\u i≠0)->cnt k v<cnt k u
 |0,_,⟨i,hi,_⟩=>by omega
 |k+1,h,⟨i,hi,h1,h2⟩=>by
  show cnt k v+(if v k=0 then 0 else 1)<cnt k u+(if u k=0 then 0 else 1);by_cases e:i=k
  ·subst e;have:=AE (k:=i) λj hj=>h j (by omega);rw[if_pos h1,if_neg h2];omega
  ·have:=vh (k:=k) (λj hj=>h j (by omega)) ⟨i,by omega,h1,h2⟩;by_cases e2:u k=0
   ·rw[if_pos e2,if_pos (h k (by omega) e2)];omega
   ·rw[if_neg e2];split<;>omega
def kM:Nat->(Nat->Rat)->List Nat
 |0,_=>[]
 |k+1,u=>if u k=0 then kM k u else k::kM k u
theorem t7{u:Nat->Rat}:∀k:Nat,(kM k u).length=cnt k u
 |0=>rfl
 |k+1=>by
  show(if u k=0 then kM k u else k::kM k u).length=cnt k u+(if u k=0 then 0 else 1);split
  ·exact t7 k
  ·rw[length_cons,t7 k]
theorem mD{u:Nat->Rat}:∀{k i:Nat},i∈kM k u->i<k/\u i≠0
 |0,i,h=>by simp[kM]at h
 |k+1,i,h=>by
  have h':i∈(if u k=0 then kM k u else k::kM k u):=h;split at h'
  ·have:=mD h';exact⟨by omega,this.2⟩
  ·rename_i e;rcases mem_cons.mp h' with r|r
   ·subst r;exact⟨by omega,e⟩
   ·have:=mD r;exact⟨by omega,this.2⟩
theorem oT{u:Nat->Rat}:∀k:Nat,(kM k u).Nodup
 |0=>List.nodup_nil
 |k+1=>by
  show(if u k=0 then kM k u else k::kM k u).Nodup;split
  ·exact oT k
  ·exact nodup_cons.mpr ⟨λh=>by have:=(mD h).1;omega,oT k⟩
theorem Az{k:Nat}:∀(E:List Nat) (B:Nat->Nat->Rat) (S:List Nat),S.Nodup->(∀i∈S,i<k)->E.length<S.length->
  ∃d:Nat->Rat,(∀i,i∉S->d i=0)/\(∃i∈S,d i≠0)/\∀c∈E,sm k (λi=>d i*B i c)=0
 |[],B,S,hn,hk,hl=>by
  cases S with
  |nil=>simp at hl
  |cons p S=>
   refine⟨λi=>if i=p then 1 else 0,λi hi=>if_neg λe=>hi (by rw[e];exact mem_cons_self),⟨p,mem_cons_self,?_⟩,λc hc=>by simp at hc⟩;show(if p=p then(1:Rat)else 0)≠0;rw[if_pos rfl];grind
 |c::E,B,S,hn,hk,hl=>by
  rw[length_cons]at hl;by_cases h:∃p∈S,B p c≠0
  ·obtain⟨p,hp,hb⟩:=h;have Lb:p∉S.erase p:=λz=>by
    rw[hn.mem_erase_iff]at z;exact z.1 rfl
   have sQ:E.length<(S.erase p).length:=by rw[List.length_erase_of_mem hp];omega
   obtain⟨d,d1,⟨q,hq,dq⟩,d3⟩:=Az E (λi c'=>B i c'-B i c/B p c*B p c') (S.erase p) (hn.erase p) (λi hi=>hk i (List.mem_of_mem_erase hi)) sQ;have dp:d p=0:=d1 p Lb;refine⟨λi=>if i=p then-(sm k (λi=>d i*B i c))/B p c else d i,λi hi=>?_,⟨q,List.mem_of_mem_erase hq,?_⟩,λc' hc=>?_⟩
   ·have e:i≠p:=λe=>hi (by rw[e];exact hp);dsimp only;rw[if_neg e];exact d1 i λz=>hi (List.mem_of_mem_erase z)
   ·have e:q≠p:=λe=>Lb (e▸hq);dsimp only;rw[if_neg e];exact dq
   ·dsimp only;rw[Fq (hk p hp),dp];rcases mem_cons.mp hc with e|hc
    ·subst e;have:(- (sm k (λi=>d i*B i c'))/B p c'-0)*B p c'=- sm k (λi=>d i*B i c'):=by grind
     rw[this];grind
    ·have h3:=d3 c' hc;have e1:sm k (λi=>d i*(B i c'-B i c/B p c*B p c'))=sm k (λi=>d i*B i c')+(- (B p c'/B p c))*sm k (λi=>d i*B i c):=by
      rw[<- bD,<- dZ];exact aQ λi _=>by grind
     rw[e1]at h3;grind
  ·have h':∀p∈S,B p c=0:=λp hp=>by
    by_cases e:B p c=0
    ·exact e
    ·exact absurd ⟨p,hp,e⟩ h
   obtain⟨d,d1,d2,d3⟩:=Az E B S hn hk (by omega);refine⟨d,d1,d2,λc' hc=>?_⟩;rcases mem_cons.mp hc with e|hc
   ·subst e;refine gh λi _=>?_;by_cases m:i∈S
    ·rw[h' i m];grind
    ·rw[d1 i m];grind
   ·exact d3 c' hc
structure jR (k:Nat) (J:Nat->Prop) (E:List Nat) (B:Nat->Nat->Rat) (u:Nat->Rat):Prop where
 nn:∀i,i<k->0<=u i
 off:∀i,i<k->¬J i->u i=0
 om:∀c∈E,sm k (λi=>u i*B i c)=0
structure rJ (k:Nat) (J:Nat->Prop) (E:List Nat) (B:Nat->Nat->Rat) (u:Nat->Rat):Prop where
 i8:jR k J E B u
 ne:∃i,i<k/\u i≠0
 alone:∀v,jR k J E B v->(∀i,i<k->u i=0->v i=0)->∃c:Rat,0<=c/\∀i,i<k->v i=c*u i
variable {a b c:Rat}
theorem GB(hc:0<c)(h:b<=a/c):b*c<=a:=by
 have:=Rat.mul_le_mul_of_nonneg_left h (le_of_lt hc);have e:c*(a/c)=a:=by grind
 rw[e]at this;grind
theorem bI(ha:0<a)(hb:0<b):0<a*b:=Rat.mul_pos ha hb
theorem dk(ha:0<=a)(hb:0<=b):0<=a*b:=Rat.mul_nonneg ha hb
variable {k:Nat} {u:Nat->Rat}
theorem wY{d:Nat->Rat}(hu:∀i,i<k->0<=u i)(hz:∀i,i<k->u i=0->d i=0)(hp:∃i,i<k/\0<d i):
  ∃l:Rat,0<l/\(∀i,i<k->0<=u i-l*d i)/\∃i,i<k/\0<d i/\u i-l*d i=0:=by
 obtain⟨m,hm,pm,lm⟩:=Ao (P:=λi=>0<d i) (λi=>u i/d i) hp;have um:0<u m:=by
  have h1:=hu m hm;have h2:u m≠0:=λe=>by have:=hz m hm e;grind
  grind
 refine⟨u m/d m,?_,λi hi=>?_,m,hm,pm,by grind⟩
 ·have:0<(d m)⁻¹:=inv_pos.mpr pm;have:=bI um this;grind
 ·by_cases c:0<d i
  ·have:=GB c (lm i hi c);grind
  ·have h1:0<u m/d m:=by
    have:0<(d m)⁻¹:=inv_pos.mpr pm;have:=bI um this;grind
   have h2:=dk (le_of_lt h1) (show 0<=- d i by grind);have:=hu i hi;grind
variable {E:List Nat} {B:Nat->Nat->Rat} {J:Nat->Prop}
theorem jR.sub{l:Rat}{d:Nat->Rat}(hu:jR k J E B u)(ho:∀i,i<k->¬J i->d i=0)(hd:∀c∈E,sm k (λi=>d i*B i c)=0)(hn:∀i,i<k->0<=u i-l*d i):jR k J E B (λi=>u i-l*d i):=by
 refine⟨hn,λi hi hj=>by rw[hu.off i hi hj,ho i hi hj];grind,λc hc=>?_⟩;have e:sm k (λi=>(u i-l*d i)*B i c)=sm k (λi=>u i*B i c)+(-l)*sm k (λi=>d i*B i c):=by
  rw[<- bD,<- dZ];exact aQ λi _=>by grind
 rw[e,hu.om c hc,hd c hc];grind
theorem rJ.Qc(h:rJ k J E B u):cnt k u<=E.length+1:=by
 apply Nat.le_of_not_lt
 intro eV;rw[<- t7]at eV;cases hs:kM k u with
 |nil=>rw[hs]at eV;simp at eV
 |cons p S=>
  rw[hs,length_cons]at eV;have TK:=oT (u:=u) k;rw[hs]at TK;obtain⟨Lb,Xf⟩:=nodup_cons.mp TK;have Ee:∀i∈S,i<k/\u i≠0:=λi hi=>mD (u:=u) (by rw[hs];exact mem_cons_of_mem _ hi);have GN:p<k/\u p≠0:=mD (u:=u) (by rw[hs];exact mem_cons_self);obtain⟨d,d1,⟨q,hq,dq⟩,d3⟩:=Az E B S Xf (λi hi=>(Ee i hi).1) (by omega)

  have main:∀d:Nat->Rat,(∀i,i∉S->d i=0)->(∀c∈E,sm k (λi=>d i*B i c)=0)->¬ ∃i,i∈S/\0<d i:=by
   rintro d d1 d3 ⟨q,hq,dq⟩;have hz:∀i,i<k->u i=0->d i=0:=λi _ e=>d1 i λz=>(Ee i z).2 e;obtain⟨l,lp,h1,_⟩:=wY h.i8.nn hz ⟨q,(Ee q hq).1,dq⟩;have hc:=h.i8.sub (λi hi hj=>hz i hi (h.i8.off i hi hj)) d3 h1;obtain⟨c,_,hv⟩:=h.alone _ hc λi hi e=>by rw[e,hz i hi e];grind
   have e1:=hv p GN.1;rw[d1 p Lb]at e1;have c1:c=1:=by
    have:(c-1)*u p=0:=by grind
    rcases mul_eq_zero.mp this with e|e
    ·grind
    ·exact absurd e GN.2
   have e2:=hv q (Ee q hq).1;rw[c1]at e2;have:l*d q=0:=by grind
   have:=bI lp dq;grind
  by_cases c:0<d q
  ·exact main d d1 d3 ⟨q,hq,c⟩
  ·refine main (λi=>- d i) (λi hi=>by rw[d1 i hi];grind) (λc' hc=>?_) ⟨q,hq,by grind⟩;have:sm k (λi=>- d i*B i c')=(-1)*sm k (λi=>d i*B i c'):=by
    rw[<- bD];exact aQ λi _=>by grind
   rw[this,d3 c' hc];grind
variable {v:Nat->Rat}
def lsum (L:List (Nat->Rat)) (i:Nat):Rat:=match L with
 |[]=>0
 |v::r=>v i+lsum r i
theorem Jg(L M:List (Nat->Rat))(i:Nat):lsum (L++M) i=lsum L i+lsum M i:=by
 induction L with
 |nil=>show lsum M i=0+lsum M i;grind
 |cons v L ih=>show v i+lsum (L++M) i=(v i+lsum L i)+lsum M i;rw[ih];grind
theorem rJ.scale(hc:0<c)(h:rJ k J E B u):rJ k J E B (λi=>c*u i):=by
 refine⟨⟨λi hi=>dk (le_of_lt hc) (h.i8.nn i hi),λi hi hj=>by rw[h.i8.off i hi hj];grind,λc' iK=>?_⟩,?_,λv hv hz=>?_⟩
 ·have:sm k (λi=>c*u i*B i c')=c*sm k (λi=>u i*B i c'):=by
   rw[<- bD];exact aQ λi _=>by grind
  rw[this,h.i8.om c' iK];grind
 ·obtain⟨i,hi,cw⟩:=h.ne;refine⟨i,hi,λe=>?_⟩;rcases mul_eq_zero.mp e with e|e
  ·grind
  ·exact cw e
 ·obtain⟨l,h0,hl⟩:=h.alone v hv λi hi e=>hz i hi (by rw[e];grind);have ci:0<c⁻¹:=inv_pos.mpr hc;refine⟨l*c⁻¹,dk h0 (le_of_lt ci),λi hi=>?_⟩;rw[hl i hi];grind
theorem parted:∀(m:Nat) (u:Nat->Rat),cnt k u<=m->jR k J E B u->∃L:List (Nat->Rat),(∀v∈L,rJ k J E B v/\∀i,i<k->u i=0->v i=0)/\∀i,i<k->u i=lsum L i:=by
 intro m;induction m with
 |zero=>
  intro u hm hc;refine⟨[],λv hv=>by simp at hv,λi hi=>?_⟩;show u i=0;by_cases e:u i=0
  ·exact e
  ·have:=vh (u:=u) (v:=λ_=>0) (k:=k) (λ_ _ _=>rfl) ⟨i,hi,rfl,e⟩;omega
 |succ m ih=>
  intro u hm hc;by_cases h0:∃i,i<k/\u i≠0
  ·by_cases he:rJ k J E B u
   ·refine⟨[u],λv hv=>?_,λi hi=>?_⟩
    ·rw[mem_singleton.mp hv];exact⟨he,λ_ _ e=>e⟩
    ·show u i=u i+0;grind
   ·
    have hx:∃v,jR k J E B v/\(∀i,i<k->u i=0->v i=0)/\¬ ∃c:Rat,0<=c/\∀i,i<k->v i=c*u i:=by
     apply Classical.byContradiction
     intro hx;apply he
     refine⟨hc,h0,λv hv hz=>?_⟩;apply Classical.byContradiction
     intro hn;exact hx ⟨v,hv,hz,hn⟩
    obtain⟨v,hv,hz,hn⟩:=hx

    have gL:∃i,i<k/\0<u i:=by
     obtain⟨i,hi,cw⟩:=h0;have:=hc.nn i hi;exact⟨i,hi,by grind⟩
    obtain⟨q,hq,pq,lq⟩:=Ao (P:=λi=>0<u i) (λi=>v i/u i) gL;have WR:0<=v q/u q:=by
     have h1:0<(u q)⁻¹:=inv_pos.mpr pq;have:=dk (hv.nn q hq) (le_of_lt h1);grind
    have n1:∀i,i<k->0<=v i-v q/u q*u i:=λi hi=>by
     by_cases c:0<u i
     ·have:=GB c (lq i hi c);grind
     ·have:=hc.nn i hi;have e:u i=0:=by grind
      rw[e,hz i hi e];grind
    have c1:=hv.sub (l:=v q/u q) hc.off hc.om n1;generalize Xg:v q/u q=mu at *;have z1:∀i,i<k->u i=0->v i-mu*u i=0:=λi hi e=>by rw[e,hz i hi e];grind
    have Wv:v q-mu*u q=0:=by rw[<- Xg];grind
    have Ww:∃i,i<k/\0<v i-mu*u i:=by
     apply Classical.byContradiction
     intro qT;apply hn
     refine⟨mu,WR,λi hi=>?_⟩;have a1:=n1 i hi;have a2:¬0<v i-mu*u i:=λz=>qT ⟨i,hi,z⟩;grind
    have k1:=vh (u:=u) (v:=λi=>v i-mu*u i) (k:=k) z1 ⟨q,hq,Wv,by grind⟩

    obtain⟨l,lp,n2,s,hs,ps,es⟩:=wY hc.nn z1 Ww;have c2:=hc.sub c1.off c1.om n2;have z2:∀i,i<k->u i=0->u i-l*(v i-mu*u i)=0:=λi hi e=>by rw[z1 i hi e,e];grind
    have us:u s≠0:=λe=>by have:=z1 s hs e;grind
    have k2:=vh (u:=u) (v:=λi=>u i-l*(v i-mu*u i)) (k:=k) z2 ⟨s,hs,es,us⟩;obtain⟨L1,a1,b1⟩:=ih _ (by omega) c1;obtain⟨L2,a2,b2⟩:=ih _ (by omega) c2;have sc:∀(L:List (Nat->Rat)) (i:Nat),lsum (L.map λw=>λi=>l*w i) i=l*lsum L i:=λL i=>by
     induction L with
     |nil=>show(0:Rat)=l*0;grind
     |cons w L ih=>show l*w i+lsum (L.map λw=>λi=>l*w i) i=l*(w i+lsum L i);rw[ih];grind
    refine⟨L1.map (λw=>λi=>l*w i)++L2,λw hw=>?_,λi hi=>?_⟩
    ·rcases mem_append.mp hw with h|h
     ·obtain⟨w',zR,rfl⟩:=mem_map.mp h;obtain⟨e1,e2⟩:=a1 w' zR;exact⟨e1.scale lp,λi hi e=>by
       show l*w' i=0;rw[e2 i hi (z1 i hi e)];grind⟩
     ·obtain⟨e1,e2⟩:=a2 w h;exact⟨e1,λi hi e=>e2 i hi (z2 i hi e)⟩
    ·rw[Jg,sc,<- b1 i hi,<- b2 i hi];grind
  ·refine⟨[],λv hv=>by simp at hv,λi hi=>?_⟩;show u i=0;by_cases e:u i=0
   ·exact e
   ·exact absurd ⟨i,hi,e⟩ h0
inductive Kn where
 |eq|le|lt
deriving DecidableEq
structure Rw where
 kd:Kn
 a:Nat->Rat
 b:Rat
 w:Nat->Rat
def rel:Kn->Rat->Rat->Prop
 | .eq,x,y=>x=y
 | .le,x,y=>x<=y
 | .lt,x,y=>x<y
def vl (n:Nat) (r:Rw) (x:Nat->Rat):Rat:=sm (n+1) λc=>r.a c*x c
def Hd (n:Nat) (x:Nat->Rat) (r:Rw):Prop:=rel r.kd (vl n r x) r.b
def uo (J:Nat->Bool) (r:Rw) (i:Nat):Rat:=if J i=true then r.w i else 0
structure Sg (n k j:Nat) (J St:Nat->Bool) (E:List Nat) (B:Nat->Nat->Rat) (β:Nat->Rat) (R:List Rw):Prop where
 jn:j<=n
 zero:∀r∈R,∀c,c<j->r.a c=0
 ej:∀c∈E,c<j
 xK:∀r∈R,r.kd=.eq->∀i,i<k->J i=true->r.w i=0
 nn:∀r∈R,r.kd≠.eq->∀i,i<k->J i=true->0<=r.w i
 pos:∀r∈R,r.kd≠.eq->∃i,i<k/\J i=true/\0<r.w i
 st:∀r∈R,r.kd≠.eq->(r.kd=.lt↔∃i,i<k/\J i=true/\St i=true/\0<r.w i)
 va:∀r∈R,r.kd≠.eq->∀c,c<=n->r.a c=sm k λi=>uo J r i*B i c
 vb:∀r∈R,r.kd≠.eq->r.b=sm k λi=>uo J r i*β i
 all:∀u,rJ k (λi=>J i=true) E B u->∃r∈R,r.kd≠.eq/\∃c:Rat,0<c/\∀i,i<k->J i=true->r.w i=c*u i
variable {β:Nat->Rat} {n:Nat}
def gp (n:Nat) (B:Nat->Nat->Rat) (β:Nat->Rat) (x:Nat->Rat) (i:Nat):Rat:=sm (n+1) (λc=>B i c*x c)-β i
def Fx (n k:Nat) (B:Nat->Nat->Rat) (β:Nat->Rat) (x u:Nat->Rat):Rat:=sm k λi=>u i*gp n B β x i
variable {x:Nat->Rat}
theorem Ij(p q:Rat):Fx n k B β x (λi=>p*u i+q*v i)=p*Fx n k B β x u+q*Fx n k B β x v:=by
 unfold Fx;rw[<- bD,<- bD,<- dZ];exact aQ λi _=>by grind
theorem K6(h:∀i,i<k->v i=c*u i):Fx n k B β x v=c*Fx n k B β x u:=by
 unfold Fx;rw[<- bD];exact aQ λi hi=>by rw[h i hi];grind
variable {J:Nat->Bool} {r:Rw}
theorem AZ(ha:∀c,c<=n->r.a c=sm k λi=>uo J r i*B i c)(hb:r.b=sm k λi=>uo J r i*β i):Fx n k B β x (uo J r)=vl n r x-r.b:=by
 have e1:vl n r x=sm k (λi=>uo J r i*sm (n+1) (λc=>B i c*x c)):=by
  unfold vl;rw[aQ (g:=λc=>sm k λi=>uo J r i*B i c*x c) (λc hc=>by
   rw[ha c (by omega)];rw[show(sm k λi=>uo J r i*B i c)*x c=x c*(sm k λi=>uo J r i*B i c) by grind,<- bD];exact aQ λi _=>by grind)]
  rw[<- vJ];refine aQ λi _=>?_;rw[<- bD];exact aQ λc _=>by grind
 rw[e1,hb];unfold Fx gp;have:(sm k λi=>uo J r i*(sm (n+1) (λc=>B i c*x c)-β i))=(sm k λi=>uo J r i*sm (n+1) (λc=>B i c*x c))+(-1)*sm k λi=>uo J r i*β i:=by
  rw[<- bD,<- dZ];exact aQ λi _=>by grind
 rw[this];grind
variable {j:Nat}
variable {St:Nat->Bool} {R:List Rw} in
theorem rM(S:Sg n k j J St E B β R)(hr:r∈R)(hk:r.kd≠.eq):jR k (λi=>J i=true) E B (uo J r):=by
 refine⟨λi hi=>?_,λi hi hj=>?_,λc hc=>?_⟩
 ·unfold uo;split
  ·exact S.nn r hr hk i hi (by assumption)
  ·grind
 ·exact if_neg hj
 ·have h:=S.va r hr hk c (by have:=S.ej c hc;have:=S.jn;omega);rw[<- h];exact S.zero r hr c (S.ej c hc)
variable {St:Nat->Bool} {R:List Rw} in
theorem Er(S:Sg n k j J St E B β R)(hx:∀r∈R,r.kd≠.eq->Hd n x r)(hu:jR k (λi=>J i=true) E B u):
  Fx n k B β x u<=0/\((∃i,i<k/\St i=true/\0<u i)->Fx n k B β x u<0):=by
 obtain⟨L,h1,h2⟩:=parted (cnt k u) u (le_refl _) hu;have each:∀v∈L,Fx n k B β x v<=0/\((∃i,i<k/\St i=true/\0<v i)->Fx n k B β x v<0):=by
  intro v hv;obtain⟨he,hz⟩:=h1 v hv;obtain⟨r,hr,hk,c,hc,hw⟩:=S.all v he;have hd:=hx r hr hk;have e1:=AZ (x:=x) (S.va r hr hk) (S.vb r hr hk);have e2:Fx n k B β x (uo J r)=c*Fx n k B β x v:=K6 λi hi=>by
   unfold uo;by_cases hj:J i=true
   ·rw[if_pos hj,hw i hi hj]
   ·rw[if_neg hj,he.i8.off i hi hj];grind
  have ci:0<c⁻¹:=inv_pos.mpr hc;have e3:Fx n k B β x v=c⁻¹*(vl n r x-r.b):=by rw[<- e1,e2];grind
  unfold Hd at hd;constructor
  ·have:vl n r x-r.b<=0:=by
    cases PV:r.kd with
    |eq=>exact absurd PV hk
    |le=>rw[PV]at hd;have:vl n r x<=r.b:=hd;grind
    |lt=>rw[PV]at hd;have:vl n r x<r.b:=hd;grind
   have:=dk (le_of_lt ci) (show 0<=-(vl n r x-r.b) by grind);rw[e3];grind
  ·rintro⟨i,hi,hs,hp⟩;have hj:J i=true:=by
    by_cases hj:J i=true
    ·exact hj
    ·have:=he.i8.off i hi hj;grind
   have hl:r.kd=.lt:=(S.st r hr hk).mpr ⟨i,hi,hj,hs,by rw[hw i hi hj];exact bI hc hp⟩;rw[hl]at hd;have dR:vl n r x<r.b:=hd;have:=bI ci (show 0 < -(vl n r x-r.b) by grind);rw[e3];grind
 have Bz:∀L:List (Nat->Rat),Fx n k B β x (lsum L)=L.foldr (λv s=>Fx n k B β x v+s) 0:=by
  intro L;induction L with
  |nil=>exact gh λi _=>by show(0:Rat)*_=0;grind
  |cons v L ih=>
   show _=Fx n k B β x v+L.foldr (λv s=>Fx n k B β x v+s) 0;rw[<- ih];have:=Ij (n:=n) (k:=k) (B:=B) (β:=β) (x:=x) (u:=v) (v:=lsum L) 1 1;rw[show Fx n k B β x (lsum (v::L))=Fx n k B β x (λi=>1*v i+1*lsum L i)from aQ λi _=>by
    show(v i+lsum L i)*_=(1*v i+1*lsum L i)*_;grind]
   rw[this];grind
 have eu:Fx n k B β x u=Fx n k B β x (lsum L):=aQ λi hi=>by rw[h2 i hi]
 rw[eu,Bz];have Tn:∀L:List (Nat->Rat),(∀v∈L,Fx n k B β x v<=0)->L.foldr (λv s=>Fx n k B β x v+s) 0<=0:=by
  intro L;induction L with
  |nil=>intro _;show(0:Rat)<=0;grind
  |cons v L ih=>
   intro h;have a:=h v mem_cons_self;have b:=ih λq hq=>h q (mem_cons_of_mem _ hq);show Fx n k B β x v+L.foldr (λv s=>Fx n k B β x v+s) 0<=0;grind
 refine⟨Tn L λv hv=>(each v hv).1,?_⟩;rintro⟨i,hi,hs,hp⟩;rw[h2 i hi]at hp;have Tc:∀v∈L,0<=v i:=λv hv=>(h1 v hv).1.i8.nn i hi;clear eu Bz;clear h2 hu;induction L with
 |nil=>exact absurd hp (by show ¬(0:Rat)<0;grind)
 |cons v L ih=>
  have a:=(each v mem_cons_self).1;have a':=Tc v mem_cons_self;have b:=Tn L λq hq=>(each q (mem_cons_of_mem _ hq)).1;show Fx n k B β x v+L.foldr (λv s=>Fx n k B β x v+s) 0<0;by_cases c:0<v i
  ·have:=(each v mem_cons_self).2 ⟨i,hi,hs,c⟩;grind
  ·have gz:0<v i+lsum L i:=hp;have:=ih (λq hq=>h1 q (mem_cons_of_mem _ hq)) (λq hq=>each q (mem_cons_of_mem _ hq)) (by grind) (λq hq=>Tc q (mem_cons_of_mem _ hq));grind
structure Jd (up lo r:Rw) (j:Nat):Prop where
 kd:r.kd=if up.kd=.lt\/lo.kd=.lt then .lt else .le
 ex:∃μ:Rat,0<μ/\(∀c,r.a c=μ*(-lo.a j*up.a c+up.a j*lo.a c))/\r.b=μ*(-lo.a j*up.b+up.a j*lo.b)/\∀i,r.w i=μ*(-lo.a j*up.w i+up.a j*lo.w i)
variable {R':List Rw}
variable {R:List Rw} in
structure Pairs (k:Nat) (J:Nat->Bool) (j most:Nat) (R R':List Rw):Prop where
 p9:∀r∈R,r.kd=.eq->r.a j=0
 gC:∀r∈R',(r∈R/\r.a j=0)\/∃up∈R,∃lo∈R,0<up.a j/\lo.a j<0/\Jd up lo r j
 keep:∀r∈R,r.a j=0->∃r'∈R',r'=r
 join:∀up∈R,∀lo∈R,0<up.a j->lo.a j<0->cnt k (λi=>uo J up i+uo J lo i)<=most->∃r∈R',Jd up lo r j
theorem L5{up lo:Rw}{μ:Rat}(hw:∀i,r.w i=μ*(-lo.a j*up.w i+up.a j*lo.w i))(i:Nat):uo J r i=μ*(-lo.a j*uo J up i+up.a j*uo J lo i):=by
 unfold uo;split
 ·exact hw i
 ·grind
variable {St:Nat->Bool} {R:List Rw} in
theorem Sg.pairs(S:Sg n k j J St E B β R)(hj:j<n)(P:Pairs k J j (E.length+2) R R'):Sg n k (j+1) J St (j::E) B β R':=by
 have Bb:∀{up lo:Rw},up∈R->lo∈R->up.kd≠.eq->lo.kd≠.eq->0<up.a j->lo.a j<0->jR k (λi=>J i=true) (j::E) B (λi=>-lo.a j*uo J up i+up.a j*uo J lo i):=by
  intro up lo hu hl ku kl pu pl;have cu:=rM S hu ku;have cl:=rM S hl kl;refine⟨λi hi=>?_,λi hi h=>?_,λc hc=>?_⟩
  ·have a:=dk (show 0<=-lo.a j by grind) (cu.nn i hi);have b:=dk (le_of_lt pu) (cl.nn i hi);grind
  ·rw[cu.off i hi h,cl.off i hi h];grind
  ·have e:sm k (λi=>(-lo.a j*uo J up i+up.a j*uo J lo i)*B i c)=-lo.a j*sm k (λi=>uo J up i*B i c)+up.a j*sm k (λi=>uo J lo i*B i c):=by
    rw[<- bD,<- bD,<- dZ];exact aQ λi _=>by grind
   rw[e];rcases mem_cons.mp hc with h|h
   ·subst h;rw[<- S.va up hu ku c (by omega),<- S.va lo hl kl c (by omega)];grind
   ·rw[cu.om c h,cl.om c h];grind
 have kq:∀{r:Rw},r∈R->r.a j≠0->r.kd≠.eq:=λhr h e=>h (P.p9 _ hr e);have Tr:∀{up lo r:Rw},Jd up lo r j->r.kd≠.eq:=λh=>by rw[h.kd];split<;>simp
 refine⟨by omega,λr hr c hc=>?_,λc hc=>?_,λr hr hk i hi hj=>?_,λr hr hk i hi hj=>?_,λr hr hk=>?_,λr hr hk=>?_,λr hr hk c hc=>?_,λr hr hk=>?_,λu hu=>?_⟩
 ·rcases P.gC r hr with⟨h,h0⟩|⟨up,gL,lo,gR,pu,pl,hd⟩
  ·by_cases e:c=j
   ·rw[e];exact h0
   ·exact S.zero r h c (by omega)
  ·obtain⟨μ,_,ea,_⟩:=hd.ex;rw[ea c];by_cases e:c=j
   ·rw[e];grind
   ·rw[S.zero up gL c (by omega),S.zero lo gR c (by omega)];grind
 ·rcases mem_cons.mp hc with h|h
  ·omega
  ·have:=S.ej c h;omega
 ·rcases P.gC r hr with⟨h,h0⟩|⟨up,gL,lo,gR,pu,pl,hd⟩
  ·exact S.xK r h hk i hi hj
  ·exact absurd hk (Tr hd)
 ·rcases P.gC r hr with⟨h,h0⟩|⟨up,gL,lo,gR,pu,pl,hd⟩
  ·exact S.nn r h hk i hi hj
  ·obtain⟨μ,mp,_,_,ew⟩:=hd.ex;rw[ew i];have a:=dk (show 0<=-lo.a j by grind) (S.nn up gL (kq gL (by grind)) i hi hj);have b:=dk (le_of_lt pu) (S.nn lo gR (kq gR (by grind)) i hi hj);exact dk (le_of_lt mp) (by grind)
 ·rcases P.gC r hr with⟨h,h0⟩|⟨up,gL,lo,gR,pu,pl,hd⟩
  ·exact S.pos r h hk
  ·obtain⟨μ,mp,_,_,ew⟩:=hd.ex;obtain⟨i,hi,hj,hp⟩:=S.pos up gL (kq gL (by grind));refine⟨i,hi,hj,?_⟩;rw[ew i];have a:=bI (show 0 < -lo.a j by grind) hp;have b:=dk (le_of_lt pu) (S.nn lo gR (kq gR (by grind)) i hi hj);exact bI mp (by grind)
 ·rcases P.gC r hr with⟨h,h0⟩|⟨up,gL,lo,gR,pu,pl,hd⟩
  ·exact S.st r h hk
  ·obtain⟨μ,mp,_,_,ew⟩:=hd.ex;have su:=S.st up gL (kq gL (by grind));have sl:=S.st lo gR (kq gR (by grind));have nu:=S.nn up gL (kq gL (by grind));have nl:=S.nn lo gR (kq gR (by grind));constructor
   ·intro e;rw[hd.kd]at e;split at e
    ·rename_i h;rcases h with h|h
     ·obtain⟨i,hi,hj,hs,hp⟩:=su.mp h;refine⟨i,hi,hj,hs,?_⟩;rw[ew i];have a:=bI (show 0 < -lo.a j by grind) hp;have b:=dk (le_of_lt pu) (nl i hi hj);exact bI mp (by grind)
     ·obtain⟨i,hi,hj,hs,hp⟩:=sl.mp h;refine⟨i,hi,hj,hs,?_⟩;rw[ew i];have a:=dk (show 0<=-lo.a j by grind) (nu i hi hj);have b:=bI pu hp;exact bI mp (by grind)
    ·cases e
   ·rintro⟨i,hi,hj,hs,hp⟩;rw[hd.kd,if_pos];by_cases c:0<up.w i
    ·exact .inl (su.mpr ⟨i,hi,hj,hs,c⟩)
    ·right
     refine sl.mpr ⟨i,hi,hj,hs,?_⟩;have X7:up.w i=0:=by have:=nu i hi hj;grind
     by_cases c2:0<lo.w i
     ·exact c2
     ·have Xo:lo.w i=0:=by have:=nl i hi hj;grind
      rw[ew i,X7,Xo]at hp;grind
 ·rcases P.gC r hr with⟨h,h0⟩|⟨up,gL,lo,gR,pu,pl,hd⟩
  ·exact S.va r h hk c hc
  ·obtain⟨μ,mp,ea,_,ew⟩:=hd.ex;rw[ea c,S.va up gL (kq gL (by grind)) c hc,S.va lo gR (kq gR (by grind)) c hc];rw[<- bD,<- bD,<- dZ,<- bD];exact aQ λi _=>by rw[L5 ew i];grind
 ·rcases P.gC r hr with⟨h,h0⟩|⟨up,gL,lo,gR,pu,pl,hd⟩
  ·exact S.vb r h hk
  ·obtain⟨μ,mp,_,eb,ew⟩:=hd.ex;rw[eb,S.vb up gL (kq gL (by grind)),S.vb lo gR (kq gR (by grind))];rw[<- bD,<- bD,<- dZ,<- bD];exact aQ λi _=>by rw[L5 ew i];grind
 ·
  have Qc:=hu.Qc;rw[length_cons]at Qc;have v7:jR k (λi=>J i=true) E B u:=⟨hu.i8.nn,hu.i8.off,λc hc=>hu.i8.om c (mem_cons_of_mem _ hc)⟩;obtain⟨L,h1,h2⟩:=parted (cnt k u) u (le_refl _) v7

  let V:(Nat->Rat)->Rat:=λv=>sm k λi=>v i*B i j;have rowOf:∀v∈L,∃r∈R,r.kd≠.eq/\∃c:Rat,0<c/\(∀i,i<k->uo J r i=c*v i)/\r.a j=c*V v:=by
   intro v hv;obtain⟨he,hz⟩:=h1 v hv;obtain⟨r,hr,hk,c,hc,hw⟩:=S.all v he;have e:∀i,i<k->uo J r i=c*v i:=λi hi=>by
    unfold uo;by_cases hj:J i=true
    ·rw[if_pos hj,hw i hi hj]
    ·rw[if_neg hj,he.i8.off i hi hj];grind
   refine⟨r,hr,hk,c,hc,e,?_⟩;rw[S.va r hr hk j (by omega)];show _=c*sm k λi=>v i*B i j;rw[<- bD];exact aQ λi hi=>by rw[e i hi];grind
  by_cases hz:∃v∈L,V v=0
  ·obtain⟨v,hv,h0⟩:=hz;obtain⟨r,hr,hk,c,hc,hw,ha⟩:=rowOf v hv;obtain⟨he,VQ⟩:=h1 v hv;obtain⟨l,l0,hl⟩:=hu.alone v ⟨he.i8.nn,he.i8.off,λc' iK=>by
    rcases mem_cons.mp iK with h|h
    ·subst h;exact h0
    ·exact he.i8.om c' h⟩ VQ
   have lp:0<l:=by
    obtain⟨i,hi,cw⟩:=he.ne;rcases Rat.le_iff_lt_or_eq.mp l0 with h|h
    ·exact h
    ·exact absurd (by rw[hl i hi,<- h];grind) cw
   obtain⟨r',cP,e⟩:=P.keep r hr (by rw[ha,h0];grind);subst e;refine⟨r',cP,hk,c*l,bI hc lp,λi hi hj=>?_⟩;have:=hw i hi;unfold uo at this;rw[if_pos hj,hl i hi]at this;rw[this];grind
  ·
   have Vx:∀L:List (Nat->Rat),V (lsum L)=L.foldr (λv s=>V v+s) 0:=by
    intro L;induction L with
    |nil=>exact gh λi _=>by show(0:Rat)*_=0;grind
    |cons v L ih=>
     show _=V v+L.foldr (λv s=>V v+s) 0;rw[<- ih];show(sm k λi=>(v i+lsum L i)*B i j)=(sm k λi=>v i*B i j)+sm k λi=>lsum L i*B i j;rw[<- dZ];exact aQ λi _=>by grind
   have Bz:L.foldr (λv s=>V v+s) 0=0:=by
    rw[<- Vx];have:=hu.i8.om j mem_cons_self;rw[<- this];exact aQ λi hi=>by rw[h2 i hi]
   have UP:L≠[]:=by
    intro e;obtain⟨i,hi,cw⟩:=hu.ne;apply cw
    rw[h2 i hi,e];rfl
   have nz:∀v∈L,V v≠0:=λv hv h=>hz ⟨v,hv,h⟩;have qS:∃v∈L,0<V v:=by
    apply Classical.byContradiction
    intro qT;have neg:∀v∈L,V v<0:=λv hv=>by
     have a:=nz v hv;have b:¬0<V v:=λz=>qT ⟨v,hv,z⟩;grind
    have:∀M:List (Nat->Rat),M≠[]->(∀v∈M,V v<0)->M.foldr (λv s=>V v+s) 0<0:=by
     intro M;induction M with
     |nil=>intro h;exact absurd rfl h
     |cons v M ih=>
      intro _ h;have a:=h v mem_cons_self;show V v+M.foldr (λv s=>V v+s) 0<0;by_cases e:M=[]
      ·subst e;show V v+0<0;grind
      ·have:=ih e λq hq=>h q (mem_cons_of_mem _ hq);grind
    have:=this L UP neg;grind
   have Jq:∃v∈L,V v<0:=by
    apply Classical.byContradiction
    intro qT;have neg:∀v∈L,0<V v:=λv hv=>by
     have a:=nz v hv;have b:¬V v<0:=λz=>qT ⟨v,hv,z⟩;grind
    have:∀M:List (Nat->Rat),M≠[]->(∀v∈M,0<V v)->0<M.foldr (λv s=>V v+s) 0:=by
     intro M;induction M with
     |nil=>intro h;exact absurd rfl h
     |cons v M ih=>
      intro _ h;have a:=h v mem_cons_self;show 0<V v+M.foldr (λv s=>V v+s) 0;by_cases e:M=[]
      ·subst e;show 0<V v+0;grind
      ·have:=ih e λq hq=>h q (mem_cons_of_mem _ hq);grind
    have:=this L UP neg;grind
   obtain⟨p,hp,pp⟩:=qS;obtain⟨q,hq,qn⟩:=Jq;obtain⟨up,gL,ku,cu,YA,wu,au⟩:=rowOf p hp;obtain⟨lo,gR,kl,cl,YB,wl,al⟩:=rowOf q hq;have pu:0<up.a j:=by rw[au];exact bI YA pp
   have pl:lo.a j<0:=by
    have:=bI YB (show 0 < - V q by grind);rw[al];grind
   have cj:=Bb gL gR ku kl pu pl;have sup:∀i,i<k->u i=0->-lo.a j*uo J up i+up.a j*uo J lo i=0:=λi hi e=>by
    rw[wu i hi,wl i hi,(h1 p hp).2 i hi e,(h1 q hq).2 i hi e];grind
   have Vw:∀i,i<k->u i=0->uo J up i+uo J lo i=0:=λi hi e=>by
    rw[wu i hi,wl i hi,(h1 p hp).2 i hi e,(h1 q hq).2 i hi e];grind
   obtain⟨l,l0,hl⟩:=hu.alone _ cj sup;have hcnt:=AE (k:=k) Vw;obtain⟨r,hr,hd⟩:=P.join up gL lo gR pu pl (by omega);obtain⟨μ,mp,_,_,ew⟩:=hd.ex;have lp:0<l:=by
    rcases Rat.le_iff_lt_or_eq.mp l0 with h|h
    ·exact h
    ·exfalso;obtain⟨i,hi,hj,hp⟩:=S.pos up gL ku;have e:=hl i hi;rw[<- h]at e;have a:=bI (show 0 < -lo.a j by grind) hp;have b:=dk (le_of_lt pu) (S.nn lo gR kl i hi hj);unfold uo at e;rw[if_pos hj,if_pos hj]at e;grind
   refine⟨r,hr,Tr hd,μ*l,bI mp lp,λi hi hj=>?_⟩;have e:=hl i hi;unfold uo at e;rw[if_pos hj,if_pos hj]at e;rw[ew i,e];grind
structure Wo (q r r':Rw) (j:Nat):Prop where
 kd:r'.kd=r.kd
 ex:∃μ:Rat,0<μ/\(∀c,r'.a c=μ*(r.a c-r.a j/q.a j*q.a c))/\r'.b=μ*(r.b-r.a j/q.a j*q.b)/\∀i,r'.w i=μ*(r.w i-r.a j/q.a j*q.w i)
variable {R:List Rw} in
structure EH (j:Nat) (q:Rw) (R R':List Rw):Prop where
 mem:q∈R
 eq:q.kd=.eq
 ne:q.a j≠0
 gC:∀r'∈R',∃r∈R,Wo q r r' j
 to:∀r∈R,r≠q->∃r'∈R',Wo q r r' j
variable {St:Nat->Bool} {R:List Rw} in
theorem Sg.Sy{q:Rw}(S:Sg n k j J St E B β R)(hj:j<n)(G:EH j q R R'):
  Sg n k (j+1) J St E (λi c=>B i c-B i j/q.a j*q.a c) (λi=>β i-B i j/q.a j*q.b) R':=by
 have q0:∀i,i<k->J i=true->q.w i=0:=S.xK q G.mem G.eq;have wu:∀{r r':Rw} {μ:Rat},(∀i,r'.w i=μ*(r.w i-r.a j/q.a j*q.w i))->∀i,i<k->uo J r' i=μ*uo J r i:=by
  intro r r' μ h i hi;unfold uo;by_cases hj:J i=true
  ·rw[if_pos hj,if_pos hj,h i,q0 i hi hj];grind
  ·rw[if_neg hj,if_neg hj];grind
 have ww:∀{r r':Rw} {μ:Rat},(∀i,r'.w i=μ*(r.w i-r.a j/q.a j*q.w i))->∀i,i<k->J i=true->r'.w i=μ*r.w i:=by
  intro r r' μ h i hi hj;rw[h i,q0 i hi hj];grind
 refine⟨by omega,λr' cP c hc=>?_,λc hc=>?_,λr' cP hk i hi hj=>?_,λr' cP hk i hi hj=>?_,λr' cP hk=>?_,λr' cP hk=>?_,λr' cP hk c hc=>?_,λr' cP hk=>?_,λu hu=>?_⟩
 ·obtain⟨r,hr,W⟩:=G.gC r' cP;obtain⟨μ,_,ea,_⟩:=W.ex;rw[ea c];by_cases e:c=j
  ·rw[e];have:r.a j/q.a j*q.a j=r.a j:=by have:=G.ne;grind
   rw[this];grind
  ·rw[S.zero r hr c (by omega),S.zero q G.mem c (by omega)];grind
 ·have:=S.ej c hc;omega
 ·obtain⟨r,hr,W⟩:=G.gC r' cP;obtain⟨μ,mp,ea,eb,ew⟩:=W.ex;rw[ww ew i hi hj,S.xK r hr (by rw[<- W.kd];exact hk) i hi hj];grind
 ·obtain⟨r,hr,W⟩:=G.gC r' cP;obtain⟨μ,mp,ea,eb,ew⟩:=W.ex;rw[ww ew i hi hj];exact dk (le_of_lt mp) (S.nn r hr (by rw[<- W.kd];exact hk) i hi hj)
 ·obtain⟨r,hr,W⟩:=G.gC r' cP;obtain⟨μ,mp,ea,eb,ew⟩:=W.ex;obtain⟨i,hi,hj,hp⟩:=S.pos r hr (by rw[<- W.kd];exact hk);exact⟨i,hi,hj,by rw[ww ew i hi hj];exact bI mp hp⟩
 ·obtain⟨r,hr,W⟩:=G.gC r' cP;obtain⟨μ,mp,ea,eb,ew⟩:=W.ex;rw[W.kd,S.st r hr (by rw[<- W.kd];exact hk)];constructor
  ·rintro⟨i,hi,hj,hs,hp⟩;exact⟨i,hi,hj,hs,by rw[ww ew i hi hj];exact bI mp hp⟩
  ·rintro⟨i,hi,hj,hs,hp⟩;refine⟨i,hi,hj,hs,?_⟩;rw[ww ew i hi hj]at hp;have nn:=S.nn r hr (by rw[<- W.kd];exact hk) i hi hj;by_cases c:0<r.w i
   ·exact c
   ·have:r.w i=0:=by grind
    rw[this]at hp;grind
 ·obtain⟨r,hr,W⟩:=G.gC r' cP;obtain⟨μ,mp,ea,eb,ew⟩:=W.ex;have kr:r.kd≠.eq:=by rw[<- W.kd];exact hk
  rw[ea c,S.va r hr kr c hc,S.va r hr kr j (by omega)];rw[aQ (f:=λi=>uo J r' i*(B i c-B i j/q.a j*q.a c)) (g:=λi=>μ*(uo J r i*B i c)+(-(μ/q.a j*q.a c))*(uo J r i*B i j)) (λi hi=>by rw[wu ew i hi];grind)];rw[dZ,bD,bD];grind
 ·obtain⟨r,hr,W⟩:=G.gC r' cP;obtain⟨μ,mp,ea,eb,ew⟩:=W.ex;have kr:r.kd≠.eq:=by rw[<- W.kd];exact hk
  rw[eb,S.vb r hr kr,S.va r hr kr j (by omega)];rw[aQ (f:=λi=>uo J r' i*(β i-B i j/q.a j*q.b)) (g:=λi=>μ*(uo J r i*β i)+(-(μ/q.a j*q.b))*(uo J r i*B i j)) (λi hi=>by rw[wu ew i hi];grind)];rw[dZ,bD,bD];grind
 ·have same:∀v,jR k (λi=>J i=true) E (λi c=>B i c-B i j/q.a j*q.a c) v↔jR k (λi=>J i=true) E B v:=by
   intro v;have e:∀c∈E,(sm k λi=>v i*(B i c-B i j/q.a j*q.a c))=sm k λi=>v i*B i c:=λc hc=>by
    rw[S.zero q G.mem c (S.ej c hc)];exact aQ λi _=>by grind
   exact⟨λh=>⟨h.nn,h.off,λc hc=>by rw[<- e c hc];exact h.om c hc⟩,λh=>⟨h.nn,h.off,λc hc=>by rw[e c hc];exact h.om c hc⟩⟩
  obtain⟨r,hr,hk,c,hc,hw⟩:=S.all u ⟨(same u).mp hu.i8,hu.ne,λv hv=>hu.alone v ((same v).mpr hv)⟩;obtain⟨r',cP,W⟩:=G.to r hr (λe=>hk (by rw[e];exact G.eq));obtain⟨μ,mp,ea,eb,ew⟩:=W.ex;exact⟨r',cP,by rw[W.kd];exact hk,μ*c,bI mp hc,λi hi hj=>by rw[ww ew i hi hj,hw i hi hj];grind⟩
def rest (n:Nat) (r:Rw) (x:Nat->Rat) (j:Nat):Rat:=sm (n+1) λc=>if c=j then 0 else r.a c*x c
def Nm (n:Nat) (r:Rw) (x:Nat->Rat) (j:Nat):Rat:=(r.b-rest n r x j)/r.a j
theorem oP(hj:j<=n):vl n r x=rest n r x j+r.a j*x j:=yE (by omega)
def put (x:Nat->Rat) (j:Nat) (v:Rat):Nat->Rat:=λc=>if c=j then v else x c
variable {v:Rat}
theorem IG:rest n r (put x j v) j=rest n r x j:=aQ λc _=>by
 unfold put;split<;>rfl
theorem oj(hj:j<=n):vl n r (put x j v)=rest n r x j+r.a j*v:=by
 rw[oP hj,IG];unfold put;rw[if_pos rfl]
theorem FJ(h:r.a j=0):rest n r x j=vl n r x:=aQ λc _=>by
 by_cases e:c=j
 ·rw[if_pos e,e,h];grind
 ·rw[if_neg e]
theorem A4(hj:j<=n)(h:r.a j=0):Hd n (put x j v) r↔Hd n x r:=by
 unfold Hd;rw[oj hj,h,FJ h,show vl n r x+0*v=vl n r x by grind]
theorem tV(h:r.a j≠0):r.b=rest n r x j+r.a j*Nm n r x j:=by unfold Nm;grind
theorem Dv(hj:j<=n)(h:0<r.a j):vl n r (put x j v)<=r.b↔v<=Nm n r x j:=by
 rw[oj hj,tV (n:=n) (x:=x) (j:=j) (r:=r) (by grind)];constructor
 ·intro z;have z':r.a j*v<=r.a j*Nm n r x j:=by grind
  exact Rat.le_of_mul_le_mul_left z' h
 ·intro z;have:=Rat.mul_le_mul_of_nonneg_left z (le_of_lt h);grind
theorem Du(hj:j<=n)(h:0<r.a j):vl n r (put x j v)<r.b↔v<Nm n r x j:=by
 rw[oj hj,tV (n:=n) (x:=x) (j:=j) (r:=r) (by grind)];constructor
 ·intro z;have z':r.a j*v<r.a j*Nm n r x j:=by grind
  exact Rat.lt_of_mul_lt_mul_left z' (le_of_lt h)
 ·intro z;have:=bI h (show 0<Nm n r x j-v by grind);grind
theorem lo_le(hj:j<=n)(h:r.a j<0):vl n r (put x j v)<=r.b↔Nm n r x j<=v:=by
 rw[oj hj,tV (n:=n) (x:=x) (j:=j) (r:=r) (by grind)];constructor
 ·intro z;have z': -r.a j*Nm n r x j<=-r.a j*v:=by grind
  exact Rat.le_of_mul_le_mul_left z' (by grind)
 ·intro z;have:=Rat.mul_le_mul_of_nonneg_left z (show 0<=-r.a j by grind);grind
theorem E7(hj:j<=n)(h:r.a j<0):vl n r (put x j v)<r.b↔Nm n r x j<v:=by
 rw[oj hj,tV (n:=n) (x:=x) (j:=j) (r:=r) (by grind)];constructor
 ·intro z;have z': -r.a j*Nm n r x j < -r.a j*v:=by grind
  exact Rat.lt_of_mul_lt_mul_left z' (by grind)
 ·intro z;have:=bI (show 0 < -r.a j by grind) (show 0<v-Nm n r x j by grind);grind
theorem pK(hj:j<=n)(h:r.a j≠0):vl n r (put x j v)=r.b↔v=Nm n r x j:=by
 rw[oj hj,tV (n:=n) (x:=x) (j:=j) (r:=r) h];constructor
 ·intro z;have z':r.a j*(v-Nm n r x j)=0:=by grind
  rcases mul_eq_zero.mp z' with e|e
  ·exact absurd e h
  ·grind
 ·intro z;rw[z]
def isUp (r:Rw) (j:Nat):Prop:=0<r.a j\/(r.a j<0/\r.kd=.eq)
def ph (r:Rw) (j:Nat):Prop:=r.a j<0\/(0<r.a j/\r.kd=.eq)
variable {R:List Rw} in
structure Top (n:Nat) (R:List Rw) (x:Nat->Rat) (j:Nat) (g:Option (Bool×Rat)):Prop where
 none:g=none->∀r∈R,¬isUp r j
 some:∀s v,g=some (s,v)->(∃r∈R,isUp r j/\v=Nm n r x j/\(s=true->r.kd=.lt))/\∀r∈R,isUp r j->v<=Nm n r x j/\(r.kd=.lt->Nm n r x j=v->s=true)
variable {R:List Rw} in
structure RD (n:Nat) (R:List Rw) (x:Nat->Rat) (j:Nat) (g:Option (Bool×Rat)):Prop where
 none:g=none->∀r∈R,¬ph r j
 some:∀s v,g=some (s,v)->(∃r∈R,ph r j/\v=Nm n r x j/\(s=true->r.kd=.lt))/\∀r∈R,ph r j->Nm n r x j<=v/\(r.kd=.lt->Nm n r x j=v->s=true)
def gM (least Jy:Option Rat):Rat:=match least,Jy with
 |none,none=>0
 |some l,none=>l+1
 |none,some g=>g-1
 |some l,some g=>(l+g)/2
variable {St:Nat->Bool} {R:List Rw} in
theorem Ge{up lo:Rw}(S':Sg n k (j+1) J St (j::E) B β R')(S:Sg n k j J St E B β R)(hj:j<n)(P:Pairs k J j (E.length+2) R R')(hx:∀r∈R',Hd n x r)(hu:up∈R)(hl:lo∈R)(pu:0<up.a j)(pl:lo.a j<0):
  Nm n lo x j<=Nm n up x j/\(up.kd=.lt\/lo.kd=.lt->Nm n lo x j<Nm n up x j):=by
 have ku:up.kd≠.eq:=λe=>by have:=P.p9 up hu e;grind
 have kl:lo.kd≠.eq:=λe=>by have:=P.p9 lo hl e;grind
 have cu:=rM S hu ku;have cl:=rM S hl kl;have cj:jR k (λi=>J i=true) (j::E) B (λi=>-lo.a j*uo J up i+up.a j*uo J lo i):=by
  refine⟨λi hi=>?_,λi hi h=>?_,λc hc=>?_⟩
  ·have a:=dk (show 0<=-lo.a j by grind) (cu.nn i hi);have b:=dk (le_of_lt pu) (cl.nn i hi);grind
  ·rw[cu.off i hi h,cl.off i hi h];grind
  ·have e:sm k (λi=>(-lo.a j*uo J up i+up.a j*uo J lo i)*B i c)=-lo.a j*sm k (λi=>uo J up i*B i c)+up.a j*sm k (λi=>uo J lo i*B i c):=by
    rw[<- bD,<- bD,<- dZ];exact aQ λi _=>by grind
   rw[e];rcases mem_cons.mp hc with h|h
   ·subst h;rw[<- S.va up hu ku c (by omega),<- S.va lo hl kl c (by omega)];grind
   ·rw[cu.om c h,cl.om c h];grind
 obtain⟨h1,h2⟩:=Er S' (λr hr _=>hx r hr) cj;rw[Ij,AZ (S.va up hu ku) (S.vb up hu ku),AZ (S.va lo hl kl) (S.vb lo hl kl)]at h1 h2;have bu:=tV (n:=n) (x:=x) (r:=up) (j:=j) (by grind);have bl:=tV (n:=n) (x:=x) (r:=lo) (j:=j) (by grind);have vu:=oP (n:=n) (j:=j) (r:=up) (x:=x) (by omega);have vo:=oP (n:=n) (j:=j) (r:=lo) (x:=x) (by omega);have key: -lo.a j*(vl n up x-up.b)+up.a j*(vl n lo x-lo.b)=(-lo.a j*up.a j)*(Nm n lo x j-Nm n up x j):=by
  rw[vu,vo,bu,bl];grind
 have pp:0 < -lo.a j*up.a j:=bI (by grind) pu;rw[key]at h1 h2;constructor
 ·by_cases c:Nm n lo x j<=Nm n up x j
  ·exact c
  ·have:=bI pp (show 0<Nm n lo x j-Nm n up x j by grind);grind
 ·intro hs;have sM:∃i,i<k/\St i=true/\0 < -lo.a j*uo J up i+up.a j*uo J lo i:=by
   rcases hs with hs|hs
   ·obtain⟨i,hi,GR,hst,hp⟩:=(S.st up hu ku).mp hs;refine⟨i,hi,hst,?_⟩;have a:=bI (show 0 < -lo.a j by grind) hp;have b:=dk (le_of_lt pu) (cl.nn i hi);unfold uo at b ⊢;rw[if_pos GR]at b ⊢;rw[if_pos GR];grind
   ·obtain⟨i,hi,GR,hst,hp⟩:=(S.st lo hl kl).mp hs;refine⟨i,hi,hst,?_⟩;have a:=dk (show 0<=-lo.a j by grind) (cu.nn i hi);have b:=bI pu hp;unfold uo at a ⊢;rw[if_pos GR]at a ⊢;rw[if_pos GR];grind
  have h3:=h2 sM;by_cases c:Nm n lo x j<Nm n up x j
  ·exact c
  ·have:=dk (le_of_lt pp) (show 0<=Nm n lo x j-Nm n up x j by grind);grind
def jk (g:Option (Bool×Rat)):Option Rat:=g.map (·.2)
variable {St:Nat->Bool} {R:List Rw} in
theorem Hk{g l:Option (Bool×Rat)}(S':Sg n k (j+1) J St (j::E) B β R')(S:Sg n k j J St E B β R)(hj:j<n)(P:Pairs k J j (E.length+2) R R')(hx:∀r∈R',Hd n x r)(hg:Top n R x j g)(hl:RD n R x j l):
  ∀r∈R,Hd n (put x j (gM (jk l) (jk g))) r:=by
 have room:=fun{up lo:Rw}=>Ge (up:=up) (lo:=lo) S' S hj P hx;have kq:∀{r:Rw},r∈R->r.a j≠0->r.kd≠.eq:=λhr h e=>h (P.p9 _ hr e);have Wx:∀{r:Rw},r∈R->isUp r j->0<r.a j:=λhr h=>h.elim id λz=>absurd z.2 (kq hr (by have:=z.1;grind));have WT:∀{r:Rw},r∈R->ph r j->r.a j<0:=λhr h=>h.elim id λz=>absurd z.2 (kq hr (by have:=z.1;grind));intro r hr;by_cases h0:r.a j=0
 ·obtain⟨r',cP,e⟩:=P.keep r hr h0;rw[A4 (by omega) h0,<- e];exact hx r' cP
 ·have hk:=kq hr h0;by_cases hp:0<r.a j
  ·
   have goal:∀v:Rat,(v<=Nm n r x j)->(r.kd=.lt->v<Nm n r x j)->Hd n (put x j v) r:=by
    intro v h1 h2;unfold Hd;cases e:r.kd with
    |eq=>exact absurd e hk
    |le=>exact(Dv (by omega) hp).mpr h1
    |lt=>exact(Du (by omega) hp).mpr (h2 e)
   cases eg:g with
   |none=>exact absurd (.inl hp) (hg.none eg r hr)
   |some gv=>
    obtain⟨sg,v⟩:=gv;obtain⟨_,g2⟩:=hg.some sg v eg;obtain⟨g3,g4⟩:=g2 r hr (.inl hp);cases el:l with
    |none=>
     have:gM (jk none) (jk (some (sg,v)))=v-1:=rfl;rw[this];exact goal _ (by grind) (λ_=>by grind)
    |some lv=>
     obtain⟨sl,v'⟩:=lv;obtain⟨⟨lo,gR,X0,elo,_⟩,_⟩:=hl.some sl v' el;obtain⟨r1,r2⟩:=room hr gR hp (WT gR X0);have:gM (jk (some (sl,v'))) (jk (some (sg,v)))=(v'+v)/2:=rfl;rw[this];exact goal _ (by grind) (λe=>by have:=r2 (.inl e);grind)
  ·have hn:r.a j<0:=by grind
   have goal:∀v:Rat,(Nm n r x j<=v)->(r.kd=.lt->Nm n r x j<v)->Hd n (put x j v) r:=by
    intro v h1 h2;unfold Hd;cases e:r.kd with
    |eq=>exact absurd e hk
    |le=>exact(lo_le (by omega) hn).mpr h1
    |lt=>exact(E7 (by omega) hn).mpr (h2 e)
   cases el:l with
   |none=>exact absurd (.inl hn) (hl.none el r hr)
   |some lv=>
    obtain⟨sl,v'⟩:=lv;obtain⟨_,l2⟩:=hl.some sl v' el;obtain⟨l3,l4⟩:=l2 r hr (.inl hn);cases eg:g with
    |none=>
     have:gM (jk (some (sl,v'))) (jk none)=v'+1:=rfl;rw[this];exact goal _ (by grind) (λ_=>by grind)
    |some gv=>
     obtain⟨sg,v⟩:=gv;obtain⟨⟨up,gL,WZ,eup,_⟩,_⟩:=hg.some sg v eg;obtain⟨r1,r2⟩:=room gL hr (Wx gL WZ) hn;have:gM (jk (some (sl,v'))) (jk (some (sg,v)))=(v'+v)/2:=rfl;rw[this];exact goal _ (by grind) (λe=>by have:=r2 (.inr e);grind)
variable {R:List Rw} in
theorem Hl{q:Rw}{g l:Option (Bool×Rat)}(hj:j<=n)(G:EH j q R R')(hx:∀r∈R',Hd n x r)(h0:∀r∈R',r.a j=0)(hg:Top n R x j g)(hl:RD n R x j l):
  ∀r∈R,Hd n (put x j (gM (jk l) (jk g))) r:=by

 have at':∀r∈R,Hd n (put x j (Nm n q x j)) r:=by
  intro r hr;have hq:vl n q (put x j (Nm n q x j))=q.b:=(pK hj G.ne).mpr rfl;by_cases e:r=q
  ·rw[e];unfold Hd;rw[G.eq];exact hq
  ·obtain⟨r',cP,W⟩:=G.to r hr e;have hd:=(A4 (n:=n) (x:=x) (v:=Nm n q x j) hj (h0 r' cP)).mpr (hx r' cP);obtain⟨μ,mp,ea,eb,_⟩:=W.ex;generalize put x j (Nm n q x j)=y at hd hq ⊢;have ev:vl n r' y=μ*(vl n r y-r.a j/q.a j*vl n q y):=by
    unfold vl;rw[aQ (g:=λc=>μ*(r.a c*y c)+(-(μ*(r.a j/q.a j)))*(q.a c*y c)) (λc _=>by rw[ea c];grind),dZ,bD,bD];grind
   unfold Hd at hd ⊢;rw[W.kd,ev,eb,hq]at hd;have mi:0<μ⁻¹:=inv_pos.mpr mp;cases hk:r.kd with
   |eq=>
    rw[hk]at hd;have dR:μ*(vl n r y-r.a j/q.a j*q.b)=μ*(r.b-r.a j/q.a j*q.b):=hd;have:μ*(vl n r y-r.b)=0:=by grind
    show vl n r y=r.b;rcases mul_eq_zero.mp this with z|z<;>grind
   |le=>
    rw[hk]at hd;have dR:μ*(vl n r y-r.a j/q.a j*q.b)<=μ*(r.b-r.a j/q.a j*q.b):=hd;have:=Rat.le_of_mul_le_mul_left dR mp;show vl n r y<=r.b;grind
   |lt=>
    rw[hk]at hd;have dR:μ*(vl n r y-r.a j/q.a j*q.b)<μ*(r.b-r.a j/q.a j*q.b):=hd;have:=Rat.lt_of_mul_lt_mul_left dR (le_of_lt mp);show vl n r y<r.b;grind
 have qu:isUp q j:=by
  have:=G.ne;by_cases c:0<q.a j
  ·exact .inl c
  ·exact .inr ⟨by grind,G.eq⟩
 have ql:ph q j:=by
  have:=G.ne;by_cases c:q.a j<0
  ·exact .inl c
  ·exact .inr ⟨by grind,G.eq⟩
 have Yc:∀r∈R,isUp r j->Nm n q x j<=Nm n r x j:=by
  intro r hr hu;have h:=at' r hr;unfold Hd at h;rcases hu with hp|⟨hn,he⟩
  ·cases hk:r.kd with
   |eq=>rw[hk]at h;have:=(pK hj (by grind)).mp h;grind
   |le=>rw[hk]at h;exact(Dv hj hp).mp h
   |lt=>rw[hk]at h;exact le_of_lt ((Du hj hp).mp h)
  ·rw[he]at h;have:=(pK hj (by grind)).mp h;grind
 have WW:∀r∈R,ph r j->Nm n r x j<=Nm n q x j:=by
  intro r hr hu;have h:=at' r hr;unfold Hd at h;rcases hu with hp|⟨hn,he⟩
  ·cases hk:r.kd with
   |eq=>rw[hk]at h;have:=(pK hj (by grind)).mp h;grind
   |le=>rw[hk]at h;exact(lo_le hj hp).mp h
   |lt=>rw[hk]at h;exact le_of_lt ((E7 hj hp).mp h)
  ·rw[he]at h;have:=(pK hj (by grind)).mp h;grind
 have eb:gM (jk l) (jk g)=Nm n q x j:=by
  cases eg:g with
  |none=>exact absurd qu (hg.none eg q G.mem)
  |some gv=>
   obtain⟨sg,v⟩:=gv;obtain⟨⟨r,hr,iu,ev,_⟩,g2⟩:=hg.some sg v eg;have a1:=(g2 q G.mem qu).1;have a2:=Yc r hr iu;cases el:l with
   |none=>exact absurd ql (hl.none el q G.mem)
   |some lv=>
    obtain⟨sl,v'⟩:=lv;obtain⟨⟨r',cP,il,ev',_⟩,l2⟩:=hl.some sl v' el;have b1:=(l2 q G.mem ql).1;have b2:=WW r' cP il;show(v'+v)/2=_;grind
 rw[eb];exact at'
abbrev Row:=Kn×List Int
def ent (r:Row) (c:Nat):Int:=r.2.getD c 0
def lowG (l:List Int):Nat:=l.foldl (λg x=>Nat.gcd g x.natAbs) 0
def lowered (l:List Int):List Int:=l.map λx=>x.fdiv (lowG l:Int)
def fV (one:List Int) (bR:Int) (other:List Int) (more:Int):List Int:=zipWith (λa b=>bR*a+more*b) one other
def mixed (one:List Int) (bR:Int) (other:List Int) (more:Int):List Int:=lowered (fV one bR other more)
def wo (equal:Row) (j:Nat) (r:Row):Row:=(r.1,mixed r.2 ((ent equal j).natAbs:Int) equal.2 (if 0<ent equal j then -ent r j else ent r j))
def joined (j:Nat) (up lo:Row):Row:=(if up.1=.lt\/lo.1=.lt then .lt else .le,mixed up.2 (-ent lo j) lo.2 (ent up j))
def drawn (aE:List Nat) (up lo:Row):Nat:=(aE.filter λp=>decide (ent up p≠0\/ent lo p≠0)).length
def ins (l:List Row) (r:Row):List Row:=if r∈l then l else l++[r]
def pairsOf (j:Nat) (aE:List Nat) (most:Nat) (rows:List Row):List Row:=
 (rows.filter λr=>decide (0<ent r j)).flatMap λup=>((rows.filter λr=>decide (ent r j<0)).filter λlo=>decide (drawn aE up lo<=most)).map λlo=>joined j up lo
def paired (j:Nat) (aE:List Nat) (most:Nat) (rows:List Row):List Row:=(rows.filter (λr=>decide (ent r j=0))++pairsOf j aE most rows).foldl ins []
def eM (j:Nat) (rows:List Row):Option Row:=rows.find? λr=>decide (r.1=.eq/\ent r j≠0)
def d8 (aE:List Nat) (j most:Nat) (rows:List Row):List Row:=match eM j rows with
 |none=>paired j aE (most+1) rows
 |some q=>(rows.filter λr=>decide (r≠q)).map (wo q j)
def iW (j most:Nat) (rows:List Row):Nat:=match eM j rows with
 |none=>most+1
 |some _=>most
def lX (aE:List Nat):Nat->Nat->Nat->List Row->List (List Row)
 |0,_,_,rows=>[rows]
 |m+1,j,most,rows=>rows::lX aE m (j+1) (iW j most rows) (d8 aE j most rows)
def aG (n:Nat) (r:Row):Rw:=⟨r.1,λc=>(ent r c:Rat),(ent r (n+1):Rat),λi=>(ent r (n+2+i):Rat)⟩
theorem Co:∀(l:List Int) (g:Nat),(∀x∈l,(l.foldl (λg x=>Nat.gcd g x.natAbs) g)∣x.natAbs)/\(l.foldl (λg x=>Nat.gcd g x.natAbs) g)∣g
 |[],g=>⟨λx hx=>by simp at hx,Nat.dvd_refl g⟩
 |y::l,g=>by
  obtain⟨h1,h2⟩:=Co l (Nat.gcd g y.natAbs);rw[foldl_cons];refine⟨λx hx=>?_,dvd_trans h2 (Nat.gcd_dvd_left _ _)⟩;rcases mem_cons.mp hx with e|h
  ·rw[e];exact dvd_trans h2 (Nat.gcd_dvd_right _ _)
  ·exact h1 x h
variable {l:List Int}
theorem mM{x:Int}(h:x∈l):(lowG l:Int)∣x:=Int.ofNat_dvd_left.mpr ((Co l 0).1 x h)
theorem tG{x:Int}(h:x∈l)(hx:x≠0):0<lowG l:=by
 rcases Nat.eq_zero_or_pos (lowG l)with e|e
 ·have:=mM h;rw[e]at this;exact absurd (Int.zero_dvd.mp this) hx
 ·exact e
theorem Hc{f:Int->Int}(f0:f 0=0)(l:List Int)(c:Nat):(l.map f).getD c 0=f (l.getD c 0):=by
 rw[getD_eq_getElem?_getD,getD_eq_getElem?_getD,getElem?_map];cases l[c]? with
 |none=>exact f0.symm
 |some x=>rfl
variable {c:Nat}
theorem mem_getD(h:l.getD c 0≠0):l.getD c 0∈l:=by
 rw[getD_eq_getElem?_getD]at h ⊢;cases e:l[c]? with
 |none=>rw[e]at h;exact absurd rfl h
 |some x=>exact mem_of_getElem? e
theorem B8(hp:0<lowG l)(c:Nat):((lowered l).getD c 0:Rat)=(lowG l:Rat)⁻¹*(l.getD c 0:Rat):=by
 have f0:(0:Int).fdiv (lowG l:Int)=0:=Int.zero_fdiv _;unfold lowered;rw[Hc f0];by_cases e:l.getD c 0=0
 ·rw[e,f0];grind
 ·obtain⟨q,hq⟩:=mM (mem_getD e);have g0:(lowG l:Int)≠0:=by omega
  have e2:(l.getD c 0).fdiv (lowG l:Int)=q:=by rw[hq,mul_comm,Int.mul_fdiv_cancel _ g0]
  rw[e2,hq,intCast_mul];have g1:((lowG l:Int):Rat)≠0:=λz=>g0 (Rat.intCast_eq_zero_iff.mp z);have g2:((lowG l:Int):Rat)=(lowG l:Rat):=rfl;rw[g2]at g1 ⊢;grind
theorem sL(l:List Int):(lowered l).length=l.length:=by unfold lowered;rw[length_map]
variable {other:List Int}
theorem mL{one:List Int}(h:one.length=other.length)(bR more:Int)(c:Nat):(fV one bR other more).getD c 0=bR*one.getD c 0+more*other.getD c 0:=by
 unfold fV;rw[getD_eq_getElem?_getD,getD_eq_getElem?_getD,getD_eq_getElem?_getD,List.getElem?_zipWith];by_cases hc:c<one.length
 ·rw[getElem?_eq_getElem hc,getElem?_eq_getElem (h▸hc)];rfl
 ·rw[List.getElem?_eq_none (by omega),List.getElem?_eq_none (by omega)];show(0:Int)=bR*0+more*0;omega
theorem Jf{one:List Int}(h:one.length=other.length)(bR more:Int):(fV one bR other more).length=one.length:=by
 unfold fV;rw[length_zipWith];omega
theorem B9{g:Nat}(h:0<g):0<(g:Rat)⁻¹:=inv_pos.mpr (by
 have:((0:Nat):Rat)<(g:Rat):=Rat.natCast_lt_natCast.mpr h;exact this)
variable {p:Nat}
theorem xq{one:List Int}(h:one.length=other.length){bR more:Int}(hp:bR*one.getD p 0+more*other.getD p 0≠0):
  ∃μ:Rat,0<μ/\∀c,((mixed one bR other more).getD c 0:Rat)=μ*((bR:Rat)*(one.getD c 0:Rat)+(more:Rat)*(other.getD c 0:Rat)):=by
 have e:=mL h bR more p;have hg:0<lowG (fV one bR other more):=tG (mem_getD (by rw[e];exact hp)) (by rw[e];exact hp);refine⟨_,B9 hg,λc=>?_⟩;unfold mixed;rw[B8 hg,mL h,Rat.intCast_add,intCast_mul,intCast_mul]
theorem nF{one:List Int}(h:one.length=other.length)(bR more:Int):(mixed one bR other more).length=one.length:=by
 unfold mixed;rw[sL,Jf h]
variable {r:Row}
theorem MU{l:List Row}{x:Row}:x∈ins l r↔x∈l\/x=r:=by
 unfold ins;split
 ·rename_i h;exact⟨.inl,λz=>z.elim id λe=>by rw[e];exact h⟩
 ·rw[mem_append,mem_singleton]
theorem uU{x:Row}:∀{M l:List Row},x∈M.foldl ins l↔x∈l\/x∈M
 |[],l=>by simp
 |r::M,l=>by
  rw[foldl_cons,uU,MU,mem_cons];grind
variable {most:Nat} {rows:List Row}
theorem i4{aE:List Nat}{x:Row}:x∈paired j aE most rows↔(x∈rows/\ent x j=0)\/∃up∈rows,∃lo∈rows,0<ent up j/\ent lo j<0/\drawn aE up lo<=most/\x=joined j up lo:=by
 unfold paired pairsOf;rw[uU,mem_append,mem_filter,List.mem_flatMap];constructor
 ·rintro(h|h|⟨up,hu,hx⟩)
  ·simp at h
  ·exact .inl ⟨h.1,by simpa using h.2⟩
  ·obtain⟨zS,PB⟩:=mem_filter.mp hu;obtain⟨lo,hl,e⟩:=mem_map.mp hx;obtain⟨zY,sQ⟩:=mem_filter.mp hl;obtain⟨Xn,Xm⟩:=mem_filter.mp zY;exact .inr ⟨up,zS,lo,Xn,by simpa using PB,by simpa using Xm,by simpa using sQ,e.symm⟩
 ·rintro(⟨h1,h2⟩|⟨up,hu,lo,hl,pu,pl,hd,e⟩)
  ·exact .inr (.inl ⟨h1,by simpa using h2⟩)
  ·exact .inr (.inr ⟨up,mem_filter.mpr ⟨hu,by simpa using pu⟩,mem_map.mpr ⟨lo,mem_filter.mpr ⟨mem_filter.mpr ⟨hl,by simpa using pl⟩,by simpa using hd⟩,e.symm⟩⟩)
variable {a:Int}
theorem iX:(0:Rat)<(a:Rat)↔0<a:=by
 have:((0:Int):Rat)<(a:Rat)↔0<a:=Rat.intCast_lt_intCast;exact this
theorem qO:(a:Rat)<0↔a<0:=by
 have:(a:Rat)<((0:Int):Rat)↔a<0:=Rat.intCast_lt_intCast;exact this
theorem bP:(a:Rat)=0↔a=0:=Rat.intCast_eq_zero_iff
def cH (n k:Nat) (J:Nat->Bool):List Nat:=((List.range k).filter λi=>J i).map λi=>n+2+i
theorem Hw{up lo:Row}(hu:∀i,i<k->J i=true->0<=(aG n up).w i)(hl:∀i,i<k->J i=true->0<=(aG n lo).w i):
  drawn (cH n k J) up lo=cnt k (λi=>uo J (aG n up) i+uo J (aG n lo) i):=by
 unfold drawn cH;rw[List.filter_map,length_map,List.filter_filter];induction k with
 |zero=>rfl
 |succ k ih=>
  rw[range_succ,List.filter_append,length_append,ih (λi hi=>hu i (by omega)) (λi hi=>hl i (by omega))];show _=cnt k _+_;congr 1
  by_cases hj:J k=true
  ·have a:=hu k (by omega) hj;have b:=hl k (by omega) hj;have e0:uo J (aG n up) k+uo J (aG n lo) k=(ent up (n+2+k):Rat)+(ent lo (n+2+k):Rat):=by
    unfold uo;rw[if_pos hj,if_pos hj];rfl
   have a':0<=(ent up (n+2+k):Rat):=a;have b':0<=(ent lo (n+2+k):Rat):=b;by_cases e:ent up (n+2+k)≠0\/ent lo (n+2+k)≠0
   ·rw[if_neg,List.filter_cons_of_pos (by simp[hj];exact e)]
    ·simp
    ·show ¬uo J (aG n up) k+uo J (aG n lo) k=0;rw[e0];intro z;have z1:(ent up (n+2+k):Rat)=0:=by grind
     have z2:(ent lo (n+2+k):Rat)=0:=by grind
     exact e.elim (λh=>h (bP.mp z1)) (λh=>h (bP.mp z2))
   ·have h1:ent up (n+2+k)=0:=by
     apply Classical.byContradiction;intro z;exact e (.inl z)
    have h2:ent lo (n+2+k)=0:=by
     apply Classical.byContradiction;intro z;exact e (.inr z)
    rw[if_pos,List.filter_cons_of_neg (by simp[h1,h2])]
    ·simp
    ·show uo J (aG n up) k+uo J (aG n lo) k=0;rw[e0,h1,h2];grind
  ·rw[if_pos,List.filter_cons_of_neg (by simp[hj])]
   ·simp
   ·show uo J (aG n up) k+uo J (aG n lo) k=0;unfold uo;rw[if_neg hj,if_neg hj];grind
structure Rs (n k:Nat) (rows:List Row):Prop where
 len:∀r∈rows,r.2.length=n+2+k
 DV:∀r∈rows,r.1=.eq->∃p,ent r p≠0/\∀s∈rows,s.1=.eq->s≠r->ent s p=0
theorem GF{up lo:Row}(hl:up.2.length=lo.2.length)(pu:0<ent up j)(pl:ent lo j<0)(hp: -ent lo j*ent up p+ent up j*ent lo p≠0):Jd (aG n up) (aG n lo) (aG n (joined j up lo)) j:=by
 refine⟨rfl,?_⟩;obtain⟨μ,mp,h⟩:=xq (bR:=-ent lo j) (more:=ent up j) hl (p:=p) hp;have h':∀c,((ent (joined j up lo) c:Int):Rat)=μ*(-(ent lo j:Rat)*(ent up c:Rat)+(ent up j:Rat)*(ent lo c:Rat)):=λc=>by
  have:=h c;rw[Rat.intCast_neg]at this;exact this
 exact⟨μ,mp,λc=>h' c,h' _,λi=>h' _⟩
variable {q:Row}
theorem Kh(hl:r.2.length=q.2.length)(q0:ent q j≠0)(hp:((ent q j).natAbs:Int)*ent r p+(if 0<ent q j then -ent r j else ent r j)*ent q p≠0):Wo (aG n q) (aG n r) (aG n (wo q j r)) j:=by
 refine⟨rfl,?_⟩;obtain⟨μ,mp,h⟩:=xq (bR:=((ent q j).natAbs:Int)) (more:=if 0<ent q j then -ent r j else ent r j) hl (p:=p) hp;have qn:((ent q j:Int):Rat)≠0:=λz=>q0 (bP.mp z);have ab:(((ent q j).natAbs:Int):Rat)=if 0<ent q j then(ent q j:Rat)else -(ent q j:Rat):=by
  by_cases c:0<ent q j
  ·rw[if_pos c,show((ent q j).natAbs:Int)=ent q j by omega]
  ·rw[if_neg c,show((ent q j).natAbs:Int)=-ent q j by omega,Rat.intCast_neg]
 have ap:0<(((ent q j).natAbs:Int):Rat):=iX.mpr (by omega);have h':∀c,((ent (wo q j r) c:Int):Rat)=μ*(((ent q j).natAbs:Int):Rat)*((ent r c:Rat)-(ent r j:Rat)/(ent q j:Rat)*(ent q c:Rat)):=λc=>by
  have e:=h c;have e2:((ent (wo q j r) c:Int):Rat)=_:=e;rw[e2,ab];show μ*((if 0<ent q j then(ent q j:Rat)else -(ent q j:Rat))*(ent r c:Rat)+((if 0<ent q j then -ent r j else ent r j:Int):Rat)*(ent q c:Rat))=_;by_cases c0:0<ent q j
  ·rw[if_pos c0,if_pos c0,Rat.intCast_neg];grind
  ·rw[if_neg c0,if_neg c0];grind
 exact⟨μ*(((ent q j).natAbs:Int):Rat),bI mp ap,λc=>h' c,h' _,λi=>h' _⟩
variable {St:Nat->Bool} in
theorem zj(hR:Rs n k rows)(S:Sg n k j J St E B β (rows.map (aG n)))(hn:eM j rows=none):
  Pairs k J j (E.length+2) (rows.map (aG n)) ((paired j (cH n k J) (E.length+2) rows).map (aG n)):=by
 have mem:∀{r:Row},r∈rows->aG n r∈rows.map (aG n):=λh=>mem_map.mpr ⟨_,h,rfl⟩;have p9:∀r∈rows,r.1=.eq->ent r j=0:=λr hr he=>by
  have:=List.find?_eq_none.mp hn r hr;apply Classical.byContradiction
  intro z;exact this (by simp[he,z])
 have kq:∀{r:Row},r∈rows->ent r j≠0->(aG n r).kd≠.eq:=λhr h e=>h (p9 _ hr e);have jd:∀{up lo:Row},up∈rows->lo∈rows->0<ent up j->ent lo j<0->Jd (aG n up) (aG n lo) (aG n (joined j up lo)) j:=by
  intro up lo hu hl pu pl;obtain⟨i,hi,hj,hp⟩:=S.pos (aG n up) (mem hu) (kq hu (by omega));have b:=S.nn (aG n lo) (mem hl) (kq hl (by omega)) i hi hj;refine GF (by rw[hR.len up hu,hR.len lo hl]) pu pl (p:=n+2+i) ?_;have gz:0<ent up (n+2+i):=iX.mp hp;have A7:0<=ent lo (n+2+i):=by
   have b':(0:Rat)<=(ent lo (n+2+i):Rat):=b;have:((0:Int):Rat)<=(ent lo (n+2+i):Rat):=b';exact Rat.intCast_le_intCast.mp this
  have h1:=mul_pos (show 0 < -ent lo j by omega) gz;have h2:=Int.mul_nonneg (Int.le_of_lt pu) A7;omega
 refine⟨λr hr he=>?_,λr hr=>?_,λr hr h0=>?_,λup hu lo hl pu pl hc=>?_⟩
 ·obtain⟨r,cP,rfl⟩:=mem_map.mp hr;exact bP.mpr (p9 r cP he)
 ·obtain⟨r,cP,rfl⟩:=mem_map.mp hr;rcases i4.mp cP with⟨h1,h2⟩|⟨up,hu,lo,hl,pu,pl,_,rfl⟩
  ·exact .inl ⟨mem h1,bP.mpr h2⟩
  ·exact .inr ⟨aG n up,mem hu,aG n lo,mem hl,iX.mpr pu,qO.mpr pl,jd hu hl pu pl⟩
 ·obtain⟨r,cP,rfl⟩:=mem_map.mp hr;exact⟨_,mem_map.mpr ⟨r,i4.mpr (.inl ⟨cP,bP.mp h0⟩),rfl⟩,rfl⟩
 ·obtain⟨up,GL,rfl⟩:=mem_map.mp hu;obtain⟨lo,jw,rfl⟩:=mem_map.mp hl;clear hu hl;have hu:=GL;have hl:=jw;have T9:0<ent up j:=iX.mp pu;have Ta:ent lo j<0:=qO.mp pl;refine⟨_,mem_map.mpr ⟨joined j up lo,i4.mpr (.inr ⟨up,hu,lo,hl,T9,Ta,?_,rfl⟩),rfl⟩,jd hu hl T9 Ta⟩;rw[Hw (S.nn _ (mem hu) (kq hu (by omega))) (S.nn _ (mem hl) (kq hl (by omega)))];exact hc
theorem FG(hR:Rs n k rows)(hn:eM j rows=none):Rs n k (paired j (cH n k J) most rows):=by
 have Tp:∀{r:Row},r∈paired j (cH n k J) most rows->r.1=.eq->r∈rows:=λhr he=>by
  rcases i4.mp hr with⟨h1,h2⟩|⟨up,hu,lo,hl,pu,pl,_,e⟩
  ·exact h1
  ·rw[e]at he;unfold joined at he;dsimp only at he;split at he<;>cases he
 refine⟨λr hr=>?_,λr hr he=>?_⟩
 ·rcases i4.mp hr with⟨h1,h2⟩|⟨up,hu,lo,hl,pu,pl,_,e⟩
  ·exact hR.len r h1
  ·rw[e];show(mixed up.2 _ lo.2 _).length=_;rw[nF (by rw[hR.len up hu,hR.len lo hl]),hR.len up hu]
 ·obtain⟨p,h1,h2⟩:=hR.DV r (Tp hr he) he;exact⟨p,h1,λs hs L8 cw=>h2 s (Tp hs L8) L8 cw⟩
variable {St:Nat->Bool} in
theorem Dt(hR:Rs n k rows)(S:Sg n k j J St E B β (rows.map (aG n)))(hq:q∈rows)(qe:q.1=.eq)(q0:ent q j≠0)(hr:r∈rows)(cw:r≠q):Wo (aG n q) (aG n r) (aG n (wo q j r)) j:=by
 have mem:∀{r:Row},r∈rows->aG n r∈rows.map (aG n):=λh=>mem_map.mpr ⟨_,h,rfl⟩;have hl:r.2.length=q.2.length:=by rw[hR.len r hr,hR.len q hq]
 by_cases he:r.1=.eq
 ·obtain⟨p,h1,h2⟩:=hR.DV r hr he;refine Kh hl q0 (p:=p) ?_;rw[h2 q hq qe (Ne.symm cw)];have:((ent q j).natAbs:Int)≠0:=by omega
  have:=mul_ne_zero this h1;omega
 ·obtain⟨i,hi,hj,hp⟩:=S.pos (aG n r) (mem hr) he;have hz:=S.xK (aG n q) (mem hq) qe i hi hj;refine Kh hl q0 (p:=n+2+i) ?_;have zO:ent q (n+2+i)=0:=bP.mp hz;have gz:0<ent r (n+2+i):=iX.mp hp;rw[zO];have:((ent q j).natAbs:Int)≠0:=by omega
  have:=mul_ne_zero this (show ent r (n+2+i)≠0 by omega);omega
variable {St:Nat->Bool} in
theorem Ae(hR:Rs n k rows)(S:Sg n k j J St E B β (rows.map (aG n)))(hq:eM j rows=some q):
  EH j (aG n q) (rows.map (aG n)) (((rows.filter λr=>decide (r≠q)).map (wo q j)).map (aG n)):=by
 have mem:∀{r:Row},r∈rows->aG n r∈rows.map (aG n):=λh=>mem_map.mpr ⟨_,h,rfl⟩;have hm:=mem_of_find?_eq_some hq;have hp:=find?_some hq;have gz:q.1=.eq/\ent q j≠0:=by simpa using hp
 refine⟨mem hm,gz.1,λz=>gz.2 (bP.mp z),λr' cP=>?_,λr hr cw=>?_⟩
 ·obtain⟨s,hs,rfl⟩:=mem_map.mp cP;obtain⟨r,hr,rfl⟩:=mem_map.mp hs;obtain⟨h1,h2⟩:=mem_filter.mp hr;exact⟨aG n r,mem h1,Dt hR S hm gz.1 gz.2 h1 (by simpa using h2)⟩
 ·obtain⟨r,lR,rfl⟩:=mem_map.mp hr;clear hr;have hr:=lR;have Ed:r≠q:=λe=>cw (by rw[e]);exact⟨_,mem_map.mpr ⟨_,mem_map.mpr ⟨r,mem_filter.mpr ⟨hr,by simpa using Ed⟩,rfl⟩,rfl⟩,Dt hR S hm gz.1 gz.2 hr Ed⟩
variable {St:Nat->Bool} in
theorem IF(hR:Rs n k rows)(S:Sg n k j J St E B β (rows.map (aG n)))(hq:eM j rows=some q):Rs n k ((rows.filter λr=>decide (r≠q)).map (wo q j)):=by
 have hm:=mem_of_find?_eq_some hq;have hp:=find?_some hq;have gz:q.1=.eq/\ent q j≠0:=by simpa using hp
 have inv:∀{s:Row},s∈(rows.filter λr=>decide (r≠q)).map (wo q j)->∃r∈rows,r≠q/\s=wo q j r:=λhs=>by
  obtain⟨r,hr,rfl⟩:=mem_map.mp hs;obtain⟨h1,h2⟩:=mem_filter.mp hr;exact⟨r,h1,by simpa using h2,rfl⟩
 refine⟨λs hs=>?_,λs hs he=>?_⟩
 ·obtain⟨r,hr,cw,rfl⟩:=inv hs;show(mixed r.2 _ q.2 _).length=_;rw[nF (by rw[hR.len r hr,hR.len q hm]),hR.len r hr]
 ·obtain⟨r,hr,cw,rfl⟩:=inv hs;obtain⟨p,h1,h2⟩:=hR.DV r hr he;have zq:=h2 q hm gz.1 (Ne.symm cw)

  have at':∀{t:Row},t∈rows->t≠q->∃μ:Rat,0<μ/\((ent (wo q j t) p:Int):Rat)=μ*(ent t p:Rat):=λht X9=>by
   obtain⟨μ,mp,ea,_⟩:=(Dt (n:=n) hR S hm gz.1 gz.2 ht X9).ex;refine⟨μ,mp,?_⟩;have:=ea p;show(aG n (wo q j _)).a p=_;rw[this];show μ*((ent _ p:Rat)-_*(ent q p:Rat))=_;rw[zq];grind
  refine⟨p,?_,λs' sM Lg Ed=>?_⟩
  ·obtain⟨μ,mp,e⟩:=at' hr cw;intro z;rw[z]at e;have e':(0:Rat)=μ*(ent r p:Rat):=e;rcases mul_eq_zero.mp e'.symm with h|h
   ·grind
   ·exact h1 (bP.mp h)
  ·obtain⟨r',cP,VU,rfl⟩:=inv sM;have PD:r'≠r:=λe=>Ed (by rw[e]);obtain⟨μ,mp,e⟩:=at' cP VU;rw[h2 r' cP Lg PD]at e;exact bP.mp (by rw[e];grind)
def sf (r:Row):Nat->List Rat->Rat->Rat
 |_,[],acc=>acc
 |c,x::xs,acc=>sf r (c+1) xs (if ent r c≠0 then acc-(ent r c:Rat)*x else acc)
def lZ (r:Row) (x:List Rat):Rat:=sf r 0 x (ent r x.length:Rat)
abbrev fG:=Bool×Rat×List Rat
def mY (j:Nat) (way:Int) (r:Row):Prop:=0<way*ent r j\/(way*ent r j<0/\r.1=.eq)
instance (j:Nat) (way:Int) (r:Row):Decidable (mY j way r):=inferInstanceAs (Decidable (_\/_))
def dN (j:Nat) (way:Int) (x:List Rat) (r:Row):Rat:=lZ r x/((way*ent r j:Int):Rat)
def nh (j:Nat) (way:Int) (x:List Rat) (r:Row):List Rat:=(r.2.drop (x.length+1)).map fun(w:Int)=>(w:Rat)/((way*ent r j:Int):Rat)
def better (b:Option fG) (kd:Bool) (v:Rat):Bool:=match b with
 |none=>true
 |some b=>decide (v<b.2.1) || (decide (v=b.2.1)&&kd)
def kb (j:Nat) (way:Int) (x:List Rat) (b:Option fG) (r:Row):Option fG:=
 if mY j way r then(if better b (decide (r.1=.lt)) (dN j way x r)=true then some (decide (r.1=.lt),dN j way x r,nh j way x r)else b)else b
def cm (rows:List Row) (j:Nat) (x:List Rat) (way:Int):Option fG:=rows.foldl (kb j way x) none
def gI (b:Option fG):Option Rat:=b.map (·.2.1)
def gk (b:Option fG):Option Rat:=b.map λb=>0-b.2.1
def ee (qp:List (List Row)):Nat->List Rat->List Rat
 |0,x=>x
 |m+1,x=>ee qp m (x.set m (gM (gk (cm (qp.getD m []) m x (-1))) (gI (cm (qp.getD m []) m x 1))))
def dP (qp:List (List Row)) (n:Nat) (t:Rat):List Rat:=(ee qp n (List.replicate n 0++[t])).take n
def endOf (n:Nat) (rows:List Row) (way:Int):Option fG:=cm rows n (List.replicate (n+1) 0) way
def cL:Kn->Rat->Bool
 | .eq,b=>decide (b≠0)
 | .le,b=>decide (b<0)
 | .lt,b=>decide (b<0) || decide (b=0)
def fA (n:Nat) (rows:List Row):Option (List Rat):=(rows.find? λr=>decide (ent r n=0)&&cL r.1 (ent r (n+1):Rat)).map λr=>
 (r.2.drop (n+2)).map fun(w:Int)=>(((if r.1=.eq/\0<ent r (n+1)then -1 else 1:Int)*w:Int):Rat)
def fI (n:Nat) (rows:List Row):Option (List Rat):=match endOf n rows 1,endOf n rows (-1)with
 |some t,some b=>if cL (if t.1=true\/b.1=true then .lt else .le) (t.2.1+b.2.1)=true then some (zipWith (λx y=>x+y) t.2.2 b.2.2)else none
 |_,_=>none
def never (n:Nat) (rows:List Row):Option (List Rat):=match fA n rows with
 |some w=>some w
 |none=>fI n rows
def eO (n:Nat) (rows:List Row) (β:Rat):Rat:=gM (some (match gk (endOf n rows (-1))with|none=>β|some l=>if l<β then β else l)) (gI (endOf n rows 1))
theorem zH(r:Row):∀(xs:List Rat) (c:Nat) (acc:Rat),sf r c xs acc=acc-sm xs.length (λi=>(ent r (c+i):Rat)*xs.getD i 0)
 |[],c,acc=>by show acc=acc-0;grind
 |x::xs,c,acc=>by
  show sf r (c+1) xs _=_;rw[zH r xs (c+1)];have e:sm (xs.length+1) (λi=>(ent r (c+i):Rat)*(x::xs).getD i 0)=(ent r c:Rat)*x+sm xs.length (λi=>(ent r (c+1+i):Rat)*xs.getD i 0):=by
   have:∀(m:Nat) (f:Nat->Rat),sm (m+1) f=f 0+sm m (λi=>f (i+1)):=by
    intro m f;induction m with
    |zero=>show(0:Rat)+f 0=f 0+0;grind
    |succ m ih=>show sm (m+1) f+f (m+1)=f 0+(sm m (λi=>f (i+1))+f (m+1));rw[ih];grind
   rw[this];congr 1
   exact aQ λi _=>by
    show(ent r (c+(i+1)):Rat)*xs.getD i 0=_;rw[show c+(i+1)=c+1+i by omega]
  show _=acc-sm (xs.length+1) _;rw[e];by_cases h:ent r c=0
  ·rw[if_neg (λz=>z h),h];grind
  ·rw[if_pos h];grind
abbrev xf (x:List Rat):Nat->Rat:=λc=>x.getD c 0
variable {x:List Rat}
theorem zG(hx:x.length=n+1):lZ r x=(aG n r).b-vl n (aG n r) (xf x):=by
 unfold lZ;rw[zH,hx];show _=(ent r (n+1):Rat)-sm (n+1) (λc=>(ent r c:Rat)*x.getD c 0);congr 1
 exact aQ λi _=>by rw[zero_add]
theorem uM(hx:x.length=n+1)(hj:j<=n)(h0:x.getD j 0=0):lZ r x=(aG n r).b-rest n (aG n r) (xf x) j:=by
 rw[zG hx,oP hj];show _-(_+_*x.getD j 0)=_;rw[h0];grind
structure TS (j:Nat) (way:Int) (x:List Rat) (rows:List Row) (b:Option fG):Prop where
 none:b=none->∀r∈rows,¬mY j way r
 some:∀t,b=some t->(∃r∈rows,mY j way r/\t.1=decide (r.1=.lt)/\t.2.1=dN j way x r/\t.2.2=nh j way x r)/\∀r∈rows,mY j way r->t.2.1<=dN j way x r/\(r.1=.lt->dN j way x r=t.2.1->t.1=true)
variable {way:Int}
theorem TS.step{b:Option fG}(h:TS j way x rows b)(r:Row):TS j way x (rows++[r]) (kb j way x b r):=by
 unfold kb;by_cases c:mY j way r
 ·rw[if_pos c];by_cases d:better b (decide (r.1=.lt)) (dN j way x r)=true
  ·rw[if_pos d];refine⟨(λe=>by cases e),λt e=>?_⟩;cases e;refine⟨⟨r,by simp,c,rfl,rfl,rfl⟩,λs hs cs=>?_⟩;rcases mem_append.mp hs with hs|hs
   ·cases hb:b with
    |none=>exact absurd cs (h.none hb s hs)
    |some t=>
     obtain⟨h1,h2⟩:=(h.some t hb).2 s hs cs;rw[hb]at d;have d':(decide (dN j way x r<t.2.1) || (decide (dN j way x r=t.2.1)&&decide (r.1=.lt)))=true:=d;rw[or_eq_true,and_eq_true,decide_eq_true_iff,decide_eq_true_iff]at d';rcases d' with d'|⟨d',d2⟩
     ·exact⟨by show dN j way x r<=_;grind,λ_ e=>by have e':dN j way x s=dN j way x r:=e;grind⟩
     ·exact⟨by show dN j way x r<=_;grind,λ_ _=>d2⟩
   ·rw[mem_singleton.mp hs];exact⟨by show dN j way x r<=_;grind,λe _=>decide_eq_true e⟩
  ·rw[if_neg d];cases hb:b with
   |none=>rw[hb]at d;exact absurd rfl d
   |some t=>
    refine⟨(λe=>by cases e),λt' e=>?_⟩;cases e;obtain⟨⟨r0,PK,h1⟩,h2⟩:=h.some t hb;refine⟨⟨r0,mem_append.mpr (.inl PK),h1⟩,λs hs cs=>?_⟩;rcases mem_append.mp hs with hs|hs
    ·exact h2 s hs cs
    ·rw[mem_singleton.mp hs];rw[hb]at d;have d':¬(decide (dN j way x r<t.2.1) || (decide (dN j way x r=t.2.1)&&decide (r.1=.lt)))=true:=d;rw[or_eq_true,and_eq_true,decide_eq_true_iff,decide_eq_true_iff,decide_eq_true_iff]at d';have a:¬dN j way x r<t.2.1:=λz=>d' (.inl z);exact⟨by grind,λe1 e2=>absurd (.inr ⟨e2,e1⟩) d'⟩
 ·rw[if_neg c];refine⟨λe s hs=>?_,λt e=>?_⟩
  ·rcases mem_append.mp hs with hs|hs
   ·exact h.none e s hs
   ·rw[mem_singleton.mp hs];exact c
  ·obtain⟨⟨r0,PK,h1⟩,h2⟩:=h.some t e;refine⟨⟨r0,mem_append.mpr (.inl PK),h1⟩,λs hs cs=>?_⟩;rcases mem_append.mp hs with hs|hs
   ·exact h2 s hs cs
   ·rw[mem_singleton.mp hs]at cs;exact absurd cs c
theorem TS.all{j:Nat}{way:Int}{x:List Rat}:∀(rows done:List Row) (b:Option fG),TS j way x done b->TS j way x (done++rows) (rows.foldl (kb j way x) b)
 |[],done,b,h=>by rw[append_nil];exact h
 |r::rows,done,b,h=>by
  have:=TS.all rows (done++[r]) _ (h.step r);rw[append_assoc]at this;exact this
theorem jD(rows:List Row)(j:Nat)(x:List Rat)(way:Int):TS j way x rows (cm rows j x way):=by
 have:=TS.all (j:=j) (way:=way) (x:=x) rows [] none ⟨λ_ r hr=>by simp at hr,λt e=>by cases e⟩;exact this
theorem wy:mY j 1 r↔isUp (aG n r) j:=by
 unfold mY isUp;rw[Int.one_mul];show _↔0<(ent r j:Rat)\/((ent r j:Rat)<0/\r.1=.eq);rw[iX,qO]
theorem wz:mY j (-1) r↔ph (aG n r) j:=by
 unfold mY ph;rw[show(-1:Int)*ent r j=-ent r j by omega];show _↔(ent r j:Rat)<0\/(0<(ent r j:Rat)/\r.1=.eq);rw[iX,qO];constructor
 ·rintro(h|⟨h,e⟩)
  ·exact .inl (by omega)
  ·exact .inr ⟨by omega,e⟩
 ·rintro(h|⟨h,e⟩)
  ·exact .inl (by omega)
  ·exact .inr ⟨by omega,e⟩
theorem Cf(hx:x.length=n+1)(hj:j<=n)(h0:x.getD j 0=0):dN j 1 x r=Nm n (aG n r) (xf x) j:=by
 unfold dN Nm;rw[uM hx hj h0,Int.one_mul];rfl
theorem Cg(hx:x.length=n+1)(hj:j<=n)(h0:x.getD j 0=0):dN j (-1) x r=- Nm n (aG n r) (xf x) j:=by
 unfold dN Nm;rw[uM hx hj h0,show(-1:Int)*ent r j=-ent r j by omega,Rat.intCast_neg];show _=- (_/(ent r j:Rat));grind
def vG (b:Option fG):Option (Bool×Rat):=b.map λb=>(b.1,b.2.1)
def og (b:Option fG):Option (Bool×Rat):=b.map λb=>(b.1,0-b.2.1)
theorem zy(b:Option fG):jk (vG b)=gI b:=by cases b<;>rfl
theorem zz(b:Option fG):jk (og b)=gk b:=by cases b<;>rfl
theorem qk(hx:x.length=n+1)(hj:j<=n)(h0:x.getD j 0=0):Top n (rows.map (aG n)) (xf x) j (vG (cm rows j x 1)):=by
 have T:=jD rows j x 1;refine⟨λe r hr=>?_,λs v e=>?_⟩
 ·obtain⟨r,cP,rfl⟩:=mem_map.mp hr;rw[<- wy];refine T.none ?_ r cP;cases h:cm rows j x 1 with
  |none=>rfl
  |some b=>rw[h]at e;cases e
 ·cases h:cm rows j x 1 with
  |none=>rw[h]at e;cases e
  |some t=>
   rw[h]at e;have e':(t.1,t.2.1)=(s,v):=Option.some.inj e;injection e' with e1 e2;obtain⟨⟨r,hr,c,k1,k2,_⟩,h2⟩:=T.some t h;refine⟨⟨aG n r,mem_map.mpr ⟨r,hr,rfl⟩,wy.mp c,?_,λz=>?_⟩,λr' cP hu=>?_⟩
   ·rw[<- e2,k2,Cf hx hj h0]
   ·rw[<- e1,k1]at z;exact of_decide_eq_true z
   ·obtain⟨r2,lR,rfl⟩:=mem_map.mp cP;obtain⟨a,b⟩:=h2 r2 lR (wy.mpr hu);rw[Cf hx hj h0]at a b;rw[<- e1,<- e2];exact⟨a,b⟩
theorem qm(hx:x.length=n+1)(hj:j<=n)(h0:x.getD j 0=0):RD n (rows.map (aG n)) (xf x) j (og (cm rows j x (-1))):=by
 have T:=jD rows j x (-1);refine⟨λe r hr=>?_,λs v e=>?_⟩
 ·obtain⟨r,cP,rfl⟩:=mem_map.mp hr;rw[<- wz];refine T.none ?_ r cP;cases h:cm rows j x (-1)with
  |none=>rfl
  |some b=>rw[h]at e;cases e
 ·cases h:cm rows j x (-1)with
  |none=>rw[h]at e;cases e
  |some t=>
   rw[h]at e;have e':(t.1,0-t.2.1)=(s,v):=Option.some.inj e;injection e' with e1 e2;obtain⟨⟨r,hr,c,k1,k2,_⟩,h2⟩:=T.some t h;refine⟨⟨aG n r,mem_map.mpr ⟨r,hr,rfl⟩,wz.mp c,?_,λz=>?_⟩,λr' cP hu=>?_⟩
   ·rw[<- e2,k2,Cg hx hj h0];grind
   ·rw[<- e1,k1]at z;exact of_decide_eq_true z
   ·obtain⟨r2,lR,rfl⟩:=mem_map.mp cP;obtain⟨a,b⟩:=h2 r2 lR (wz.mpr hu);rw[Cg hx hj h0]at a b;rw[<- e1,<- e2];exact⟨by grind,λp q=>b p (by grind)⟩
def choice (rows:List Row) (j:Nat) (x:List Rat):Rat:=gM (gk (cm rows j x (-1))) (gI (cm rows j x 1))
def K7 (n j:Nat) (rows RZ:List Row):Prop:=∀x:List Rat,x.length=n+1->x.getD j 0=0->(∀r∈RZ,Hd n (xf x) (aG n r))->∀r∈rows,Hd n (put (xf x) j (choice rows j x)) (aG n r)
variable {St:Nat->Bool} in
theorem Cj(hR:Rs n k rows)(S:Sg n k j J St E B β (rows.map (aG n)))(hj:j<n)(hm:most=E.length+1):
  Rs n k (d8 (cH n k J) j most rows)/\(∃E' B' ER,Sg n k (j+1) J St E' B' ER ((d8 (cH n k J) j most rows).map (aG n))/\iW j most rows=E'.length+1)/\K7 n j rows (d8 (cH n k J) j most rows):=by
 unfold d8 iW;cases hq:eM j rows with
 |none=>
  have P:=zj hR S hq;have S':=S.pairs hj P;rw[show most+1=E.length+2 by omega];refine⟨FG hR hq,⟨_,_,_,S',by rw[length_cons]⟩,λx hx h0 hh r hr=>?_⟩;have:=Hk (x:=xf x) S' S hj P (λr hr=>by obtain⟨r,cP,rfl⟩:=mem_map.mp hr;exact hh r cP) (qk hx (by omega) h0) (qm hx (by omega) h0) (aG n r) (mem_map.mpr ⟨r,hr,rfl⟩);rw[zy,zz]at this;exact this
 |some q=>
  have G:=Ae hR S hq;have S':=S.Sy hj G;refine⟨IF hR S hq,⟨_,_,_,S',hm⟩,λx hx h0 hh r hr=>?_⟩;have:=Hl (x:=xf x) (Nat.le_of_lt hj) G (λr hr=>by obtain⟨r,cP,rfl⟩:=mem_map.mp hr;exact hh r cP) (λr hr=>S'.zero r hr j (by omega)) (qk hx (by omega) h0) (qm hx (by omega) h0) (aG n r) (mem_map.mpr ⟨r,hr,rfl⟩);rw[zy,zz]at this;exact this
structure nL (n k:Nat) (P:Nat->Nat->Rat) (Bd:Nat->Rat) (p:Nat->Rat) (r:Rw):Prop where
 a:∀c,c<n->r.a c=sm k (λi=>r.w i*P i c)-r.a n*p c
 b:r.b=sm k λi=>r.w i*Bd i
variable {P:Nat->Nat->Rat} {Bd p:Nat->Rat}
theorem nL.jd{up lo r:Rw}(hu:nL n k P Bd p up)(hl:nL n k P Bd p lo)(h:Jd up lo r j):nL n k P Bd p r:=by
 obtain⟨μ,mp,ea,eb,ew⟩:=h.ex;have key:∀g:Nat->Rat,sm k (λi=>r.w i*g i)=μ*(-lo.a j*sm k (λi=>up.w i*g i)+up.a j*sm k (λi=>lo.w i*g i)):=λg=>by
  rw[<- bD,<- bD,<- dZ,<- bD];exact aQ λi _=>by rw[ew i];grind
 refine⟨λc hc=>?_,?_⟩
 ·rw[key,ea c,ea n,hu.a c hc,hl.a c hc];grind
 ·rw[key,eb,hu.b,hl.b]
theorem nL.wo{q r r':Rw}(hq:nL n k P Bd p q)(hr:nL n k P Bd p r)(h:Wo q r r' j):nL n k P Bd p r':=by
 obtain⟨μ,mp,ea,eb,ew⟩:=h.ex;have key:∀g:Nat->Rat,sm k (λi=>r'.w i*g i)=μ*(sm k (λi=>r.w i*g i)+(-(r.a j/q.a j))*sm k (λi=>q.w i*g i)):=λg=>by
  rw[<- bD,<- dZ,<- bD];exact aQ λi _=>by rw[ew i];grind
 refine⟨λc hc=>?_,?_⟩
 ·rw[key,ea c,ea n];generalize r.a j/q.a j=ρ;rw[hr.a c hc,hq.a c hc];grind
 ·rw[key,eb];generalize r.a j/q.a j=ρ;rw[hr.b,hq.b];grind
variable {St:Nat->Bool} in
theorem Jh(hR:Rs n k rows)(S:Sg n k j J St E B β (rows.map (aG n)))(hm:most=E.length+1)(h:∀r∈rows,nL n k P Bd p (aG n r)):∀r∈d8 (cH n k J) j most rows,nL n k P Bd p (aG n r):=by
 unfold d8;cases hq:eM j rows with
 |none=>
  have Pp:=zj hR S hq;rw[show most+1=E.length+2 by omega];intro r hr;rcases Pp.gC (aG n r) (mem_map.mpr ⟨r,hr,rfl⟩)with⟨h1,_⟩|⟨up,hu,lo,hl,_,_,hd⟩
  ·obtain⟨s,hs,e⟩:=mem_map.mp h1;rw[<- e];exact h s hs
  ·obtain⟨up,GL,rfl⟩:=mem_map.mp hu;obtain⟨lo,jw,rfl⟩:=mem_map.mp hl;exact(h up GL).jd (h lo jw) hd
 |some q=>
  have G:=Ae hR S hq;intro r hr;obtain⟨s,hs,W⟩:=G.gC (aG n r) (mem_map.mpr ⟨r,hr,rfl⟩);obtain⟨s,sM,rfl⟩:=mem_map.mp hs;exact nL.wo (h q (mem_of_find?_eq_some hq)) (h s sM) W
variable {St:Nat->Bool} in
structure Run (n k:Nat) (J St:Nat->Bool) (P:Nat->Nat->Rat) (Bd p:Nat->Rat) (j:Nat) (Ls:List (List Row)) (rows:List Row):Prop where
 len:Ls.length=n-j+1
 head:Ls.getD 0 []=rows
 ext:∀i,j+i<n->K7 n (j+i) (Ls.getD i []) (Ls.getD (i+1) [])
 last:∃E B β,Sg n k n J St E B β ((Ls.getD (n-j) []).map (aG n))
 rs:Rs n k (Ls.getD (n-j) [])
 Ti:∀r∈Ls.getD (n-j) [],nL n k P Bd p (aG n r)
variable {St:Nat->Bool} in
theorem FE{P:Nat->Nat->Rat}{Bd p:Nat->Rat}:∀(m j most:Nat) (rows:List Row) (E:List Nat) (B:Nat->Nat->Rat) (β:Nat->Rat),j+m=n->most=E.length+1->Rs n k rows->Sg n k j J St E B β (rows.map (aG n))->(∀r∈rows,nL n k P Bd p (aG n r))->
  Run n k J St P Bd p j (lX (cH n k J) m j most rows) rows
 |0,j,most,rows,E,B,β,hj,hm,hR,S,hL=>by
  have e:n-j=0:=by omega
  have e2:j=n:=by omega
  subst e2;refine⟨by rw[e];rfl,rfl,λi hi=>by omega,?_,?_,?_⟩
  ·rw[e];exact⟨E,B,β,S⟩
  ·rw[e];exact hR
  ·rw[e];exact hL
 |m+1,j,most,rows,E,B,β,hj,hm,hR,S,hL=>by
  obtain⟨XH,⟨E',B',ER,S',xC⟩,hx⟩:=Cj hR S (by omega) hm;have XX:=Jh hR S hm hL;have I:=FE m (j+1) _ _ E' B' ER (by omega) xC XH S' XX;have e:n-j=n-(j+1)+1:=by omega
  refine⟨?_,rfl,λi hi=>?_,?_,?_,?_⟩
  ·show(lX (cH n k J) m (j+1) _ _).length+1=_;rw[I.len];omega
  ·cases i with
   |zero=>
    show K7 n (j+0) rows ((lX (cH n k J) m (j+1) _ _).getD 0 []);rw[I.head];exact hx
   |succ i=>
    have:=I.ext i (by omega);rw[show j+(i+1)=j+1+i by omega];exact this
  ·rw[e];exact I.last
  ·rw[e];exact I.rs
  ·rw[e];exact I.Ti
variable {m:Nat}
theorem jL(hm:m<x.length):(x.set m v).getD c 0=if c=m then v else x.getD c 0:=by
 rw[getD_eq_getElem?_getD,getD_eq_getElem?_getD];by_cases e:c=m
 ·subst e;rw[if_pos rfl,getElem?_set_self hm];rfl
 ·rw[if_neg e,getElem?_set_ne (Ne.symm e)]
variable {St:Nat->Bool} in
theorem KC{P:Nat->Nat->Rat}{Bd p:Nat->Rat}{Ls:List (List Row)}{rows:List Row}(I:Run n k J St P Bd p 0 Ls rows):∀(m:Nat) (x:List Rat),m<=n->x.length=n+1->(∀c,c<m->x.getD c 0=0)->(∀r∈Ls.getD m [],Hd n (xf x) (aG n r))->
  (ee Ls m x).length=n+1/\(ee Ls m x).getD n 0=x.getD n 0/\∀r∈rows,Hd n (xf (ee Ls m x)) (aG n r)
 |0,x,hm,hx,h0,hh=>⟨hx,rfl,by rw[<- I.head];exact hh⟩
 |m+1,x,hm,hx,h0,hh=>by
  have ex:=I.ext m (by omega);rw[zero_add]at ex;have h1:=ex x hx (h0 m (by omega)) hh;have eV:m<x.length:=by omega
  have e:xf (x.set m (choice (Ls.getD m []) m x))=put (xf x) m (choice (Ls.getD m []) m x):=funext λc=>jL eV;obtain⟨a,b,c⟩:=KC I m (x.set m (choice (Ls.getD m []) m x)) (by omega) (by rw[length_set];exact hx) (λc hc=>by
   rw[jL eV,if_neg (by omega)];exact h0 c (by omega)) (λr hr=>by rw[e];exact h1 r hr)
  refine⟨a,?_,c⟩;show(ee Ls m (x.set m (choice (Ls.getD m []) m x))).getD n 0=_;rw[b,jL eV,if_neg (by omega)]
abbrev Ol:=Kn×List Rat×Rat
def iB (qs:List Rat):Nat:=qs.foldl (λm q=>lcm m q.den) 1
def whole (kd:Kn) (qs:List Rat):Row:=(kd,qs.map λq=>q.num*((iB qs/q.den:Nat):Int))
def dD (k i:Nat):List Rat:=(List.range k).map λc=>if i=c then 1 else 0
def cB (k:Nat):Nat->List Ol->List Row
 |_,[]=>[]
 |i,o::os=>whole o.1 (o.2.1++[0,o.2.2]++dD k i)::cB k (i+1) os
def eZ (p:List Rat) (k:Nat):Row:=whole .eq (p.map (λq=>0-q)++[1,0]++List.replicate k 0)
def bo (p:List Rat) (os:List Ol):List Row:=cB os.length 0 os++[eZ p os.length]
def knd (os:List Ol) (i:Nat):Kn:=(os.getD i (.eq,[],0)).1
def iI (os:List Ol) (i c:Nat):Rat:=(os.getD i (.eq,[],0)).2.1.getD c 0
def k8 (os:List Ol) (i:Nat):Rat:=(os.getD i (.eq,[],0)).2.2
def jO (os:List Ol) (i:Nat):Bool:=decide (knd os i≠.eq)
def sO (os:List Ol) (i:Nat):Bool:=decide (knd os i=.lt)
def bG (p:List Rat) (os:List Ol):List (List Row):=lX (cH p.length os.length (jO os)) p.length 0 1 (bo p os)
theorem lcm_dvd:∀(qs:List Rat) (m:Nat),(∀q∈qs,q.den∣qs.foldl (λm q=>lcm m q.den) m)/\m∣qs.foldl (λm q=>lcm m q.den) m
 |[],m=>⟨λq hq=>by simp at hq,Nat.dvd_refl m⟩
 |y::qs,m=>by
  obtain⟨h1,h2⟩:=lcm_dvd qs (lcm m y.den);rw[foldl_cons];refine⟨λq hq=>?_,dvd_trans (Nat.dvd_lcm_left _ _) h2⟩;rcases mem_cons.mp hq with e|h
  ·rw[e];exact dvd_trans (Nat.dvd_lcm_right _ _) h2
  ·exact h1 q h
theorem lcm_pos:∀(qs:List Rat) (m:Nat),0<m->0<qs.foldl (λm q=>lcm m q.den) m
 |[],m,h=>h
 |y::qs,m,h=>lcm_pos qs _ (Nat.lcm_pos h y.den_pos)
theorem tK(qs:List Rat):0<iB qs:=lcm_pos qs 1 (by decide)
theorem jr(q:Rat):(q.num:Rat)=q*(q.den:Rat):=by
 have e:q=(q.num:Rat)/(q.den:Rat):=by rw[<- Rat.mkRat_eq_div,mkRat_self]
 have h:(q.den:Rat)≠0:=λz=>q.den_nz (Rat.natCast_eq_zero_iff.mp z);generalize (q.num:Rat)=a at *;generalize (q.den:Rat)=b at *;grind
variable {qs:List Rat}
theorem M0{q:Rat}(h:q∈qs):((q.num*((iB qs/q.den:Nat):Int):Int):Rat)=(iB qs:Rat)*q:=by
 obtain⟨d,hd⟩:=(lcm_dvd qs 1).1 q h;have dR:iB qs=q.den*d:=hd;have e:iB qs/q.den=d:=by rw[dR,Nat.mul_div_cancel_left _ q.den_pos]
 rw[e,intCast_mul,jr q,dR,Rat.natCast_mul];show q*(q.den:Rat)*(d:Rat)=(q.den:Rat)*(d:Rat)*q;grind
theorem gU{kd:Kn}(c:Nat):((ent (whole kd qs) c:Int):Rat)=(iB qs:Rat)*qs.getD c 0:=by
 unfold ent whole;rw[getD_eq_getElem?_getD,getD_eq_getElem?_getD,getElem?_map];cases h:qs[c]? with
 |none=>show((0:Int):Rat)=_*0;grind
 |some q=>exact M0 (mem_of_getElem? h)
theorem iY{ps us:List Rat}{s:Rat}(c:Nat):(ps++[s,b]++us).getD c 0=if c<ps.length then ps.getD c 0 else if c=ps.length then s else if c=ps.length+1 then b else us.getD (c-ps.length-2) 0:=by
 rw[append_assoc];simp only[getD_eq_getElem?_getD];by_cases h:c<ps.length
 ·rw[if_pos h,getElem?_append_left h]
 ·rw[if_neg h,getElem?_append_right (by omega)];by_cases h1:c=ps.length
  ·rw[if_pos h1,h1,Nat.sub_self];rfl
  ·rw[if_neg h1];by_cases h2:c=ps.length+1
   ·rw[if_pos h2,h2,Nat.add_sub_cancel_left];rfl
   ·rw[if_neg h2,show c-ps.length=(c-ps.length-2)+2 by omega];rfl
variable {i:Nat}
theorem Iu(hc:c<k):(dD k i).getD c 0=if i=c then 1 else 0:=by
 unfold dD;rw[getD_eq_getElem?_getD,getElem?_map,List.getElem?_range hc];rfl
theorem oQ(k i:Nat):(dD k i).length=k:=by unfold dD;rw[length_map,length_range]
theorem qr{f:Nat->Rat}{i:Nat}:∀{k:Nat},i<k->(∀c,c<k->c≠i->f c=0)->sm k f=f i
 |0,h,_=>by omega
 |k+1,h,hz=>by
  show sm k f+f k=f i;by_cases e:i=k
  ·subst e;rw[gh λc hc=>hz c (by omega) (by omega)];grind
  ·rw[qr (i:=i) (by omega) λc hc cw=>hz c (by omega) cw,hz k (by omega) (by omega)];grind
theorem rp(h:0<m):0<(m:Rat):=by
 have:((0:Nat):Rat)<(m:Rat):=Rat.natCast_lt_natCast.mpr h;exact this
structure nK (n k:Nat) (os:List Ol) (i:Nat) (r:Row):Prop where
 kd:r.1=knd os i
 len:r.2.length=n+2+k
 ex:∃M:Rat,0<M/\(∀c,c<n->(aG n r).a c=M*iI os i c)/\(aG n r).a n=0/\(aG n r).b=M*k8 os i/\∀c,c<k->(aG n r).w c=if i=c then M else 0
structure EE (n k:Nat) (p:List Rat) (r:Row):Prop where
 kd:r.1=.eq
 len:r.2.length=n+2+k
 ex:∃M:Rat,0<M/\(∀c,c<n->(aG n r).a c=- (M*p.getD c 0))/\(aG n r).a n=M/\(aG n r).b=0/\∀c,c<k->(aG n r).w c=0
variable {os:List Ol}
theorem uC{o:Ol}(ho:os[i]?=some o)(hl:o.2.1.length=n)(hk:i<k):nK n k os i (whole o.1 (o.2.1++[0,o.2.2]++dD k i)):=by
 have e0:os.getD i (.eq,[],0)=o:=by rw[getD_eq_getElem?_getD,ho];rfl
 refine⟨by unfold knd;rw[e0];rfl,?_,(iB (o.2.1++[0,o.2.2]++dD k i):Rat),rp (tK _),λc hc=>?_,?_,?_,λc hc=>?_⟩
 ·show(List.map _ _).length=_;rw[length_map,length_append,length_append,oQ,hl];rfl
 ·show((ent _ c:Int):Rat)=_;rw[gU,iY,if_pos (by omega)];unfold iI;rw[e0]
 ·show((ent _ n:Int):Rat)=_;rw[gU,iY,if_neg (by omega),if_pos hl.symm];grind
 ·show((ent _ (n+1):Int):Rat)=_;rw[gU,iY,if_neg (by omega),if_neg (by omega),if_pos (by omega)];unfold k8;rw[e0]
 ·show((ent _ (n+2+c):Int):Rat)=_;rw[gU,iY,if_neg (by omega),if_neg (by omega),if_neg (by omega),show n+2+c-o.2.1.length-2=c by omega,Iu hc];split<;>grind
variable {p:List Rat}
theorem yD(k:Nat):EE p.length k p (eZ p k):=by
 have hl:(p.map (λq=>0-q)).length=p.length:=length_map ..;refine⟨rfl,?_,(iB (p.map (λq=>0-q)++[1,0]++List.replicate k 0):Rat),rp (tK _),λc hc=>?_,?_,?_,λc hc=>?_⟩
 ·show(List.map _ _).length=_;rw[length_map,length_append,length_append,length_replicate,hl];rfl
 ·show((ent (eZ p k) c:Int):Rat)=_;unfold eZ;rw[gU,iY,if_pos (by omega)];have:(p.map (λq=>0-q)).getD c 0=- p.getD c 0:=by
   rw[getD_eq_getElem?_getD,getD_eq_getElem?_getD,getElem?_map];cases p[c]? with
   |none=>show(0:Rat)=-0;grind
   |some q=>show 0-q=-q;grind
  rw[this];grind
 ·show((ent (eZ p k) p.length:Int):Rat)=_;unfold eZ;rw[gU,iY,if_neg (by omega),if_pos hl.symm];grind
 ·show((ent (eZ p k) (p.length+1):Int):Rat)=_;unfold eZ;rw[gU,iY,if_neg (by omega),if_neg (by omega),if_pos (by omega)];grind
 ·show((ent (eZ p k) (p.length+2+c):Int):Rat)=_;unfold eZ;rw[gU,iY,if_neg (by omega),if_neg (by omega),if_neg (by omega)];have:(List.replicate k (0:Rat)).getD (p.length+2+c-(p.map (λq=>0-q)).length-2) 0=0:=by
   rw[getD_eq_getElem?_getD,getElem?_replicate];split<;>rfl
  rw[this];grind
theorem lz{n k:Nat}{os:List Ol}:∀(l:List Ol) (i0:Nat),(∀i,i<l.length->os[i0+i]?=l[i]?)->(∀o∈l,o.2.1.length=n)->i0+l.length<=k->∀r,r∈cB k i0 l↔∃i o,i<l.length/\l[i]?=some o/\r=whole o.1 (o.2.1++[0,o.2.2]++dD k (i0+i))
 |[],i0,_,_,_,r=>by simp[cB]
 |o::l,i0,h1,h2,h3,r=>by
  have ih:=lz (n:=n) (k:=k) (os:=os) l (i0+1) (λi hi=>by
   have:=h1 (i+1) (by rw[length_cons];omega);rw[show i0+1+i=i0+(i+1) by omega,this];rfl) (λo ho=>h2 o (mem_cons_of_mem _ ho)) (by rw[length_cons]at h3;omega) r
  show r∈whole o.1 (o.2.1++[0,o.2.2]++dD k i0)::cB k (i0+1) l↔_;rw[mem_cons,ih];constructor
  ·rintro(e|⟨i,o',hi,nI,e⟩)
   ·exact⟨0,o,by rw[length_cons];omega,rfl,e⟩
   ·exact⟨i+1,o',by rw[length_cons];omega,nI,by rw[show i0+(i+1)=i0+1+i by omega];exact e⟩
  ·rintro⟨i,o',hi,nI,e⟩;cases i with
   |zero=>cases nI;exact .inl e
   |succ i=>exact .inr ⟨i,o',by rw[length_cons]at hi;omega,nI,by rw[show i0+1+i=i0+(i+1) by omega];exact e⟩
theorem jH(hl:∀o∈os,o.2.1.length=p.length)(hr:r∈bo p os):(∃i,i<os.length/\nK p.length os.length os i r)\/EE p.length os.length p r:=by
 unfold bo at hr;rcases mem_append.mp hr with h|h
 ·obtain⟨i,o,hi,ho,e⟩:=(lz (n:=p.length) (os:=os) os 0 (λi _=>by rw[zero_add]) hl (by omega) r).mp h;rw[zero_add]at e;exact .inl ⟨i,hi,by rw[e];exact uC ho (hl o (mem_of_getElem? ho)) hi⟩
 ·rw[mem_singleton.mp h];exact .inr (yD _)
theorem yL(hl:∀o∈os,o.2.1.length=p.length)(hi:i<os.length):∃r∈bo p os,nK p.length os.length os i r:=by
 have ho:=getElem?_eq_getElem hi;refine⟨_,mem_append.mpr (.inl ((lz (n:=p.length) (os:=os) os 0 (λi _=>by rw[zero_add]) hl (by omega) _).mpr ⟨i,_,hi,ho,rfl⟩)),?_⟩;rw[zero_add];exact uC ho (hl _ (mem_of_getElem? ho)) hi
theorem tP(hl:∀o∈os,o.2.1.length=p.length):Rs p.length os.length (bo p os):=by
 refine⟨λr hr=>(jH hl hr).elim (fun⟨i,hi,h⟩=>h.len) (·.len),λr hr he=>?_⟩;have uniq:∀{r s:Row} {i:Nat},r∈bo p os->s∈bo p os->nK p.length os.length os i r->nK p.length os.length os i s->i<os.length->r=s:=by
  intro r s i hr hs h1 h2 hi

  have key:∀{t:Row},t∈bo p os->nK p.length os.length os i t->t=whole (os[i]).1 ((os[i]).2.1++[0,(os[i]).2.2]++dD os.length i):=by
   intro t ht hT;obtain⟨M,mp,_,a1,_,w1⟩:=hT.ex;unfold bo at ht;rcases mem_append.mp ht with h|h
   ·obtain⟨i',o,gW,ho,e⟩:=(lz (n:=p.length) (os:=os) os 0 (λi _=>by rw[zero_add]) hl (by omega) t).mp h;rw[zero_add]at e;have hR:=uC (n:=p.length) (k:=os.length) ho (hl o (mem_of_getElem? ho)) gW;rw[<- e]at hR;obtain⟨M',Gw,_,_,_,w2⟩:=hR.ex;have x1:=w1 i hi;have x2:=w2 i hi;rw[if_pos rfl]at x1;have:i'=i:=by
     apply Classical.byContradiction
     intro z;rw[if_neg z,x1]at x2;grind
    subst this;have:o=os[i']:=by
     have:=getElem?_eq_getElem gW;rw[ho]at this;exact Option.some.inj this
    rw[e,this]
   ·rw[mem_singleton.mp h]at a1;obtain⟨M',Gw,_,a2,_⟩:=(yD (p:=p) os.length).ex;rw[a1]at a2;grind
  rw[key hr h1,key hs h2]
 rcases jH hl hr with⟨i,hi,h⟩|h
 ·obtain⟨M,mp,_,_,_,w1⟩:=h.ex;refine⟨p.length+2+i,λz=>?_,λs hs L8 cw=>?_⟩
  ·have:=w1 i hi;rw[if_pos rfl]at this;have:(ent r (p.length+2+i):Rat)=M:=this;rw[z]at this;have:(0:Rat)=M:=this;grind
  ·rcases jH hl hs with⟨i',gW,h'⟩|h'
   ·obtain⟨M',Gw,_,_,_,w2⟩:=h'.ex;have e:=w2 i hi;have:i'≠i:=λz=>cw (uniq hs hr (z▸h') h hi);rw[if_neg this]at e;exact bP.mp e
   ·obtain⟨M',Gw,_,_,_,w2⟩:=h'.ex;exact bP.mp (w2 i hi)
 ·obtain⟨M,mp,_,a1,_,w1⟩:=h.ex;refine⟨p.length,λz=>?_,λs hs L8 cw=>?_⟩
  ·have:(ent r p.length:Rat)=M:=a1;rw[z]at this;have:(0:Rat)=M:=this;grind
  ·rcases jH hl hs with⟨i',gW,h'⟩|h'
   ·obtain⟨M',Gw,_,a2,_⟩:=h'.ex;exact bP.mp a2
   ·
    exfalso;apply cw
    have key:∀{t:Row},t∈bo p os->EE p.length os.length p t->t=eZ p os.length:=by
     intro t ht hT;unfold bo at ht;rcases mem_append.mp ht with h|h
     ·obtain⟨i',o,gW,ho,e⟩:=(lz (n:=p.length) (os:=os) os 0 (λi _=>by rw[zero_add]) hl (by omega) t).mp h;rw[zero_add]at e;have hR:=uC (n:=p.length) (k:=os.length) ho (hl o (mem_of_getElem? ho)) gW;rw[<- e]at hR;obtain⟨M',Gw,_,a3,_⟩:=hR.ex;obtain⟨M2,mp2,_,a4,_⟩:=hT.ex;rw[a3]at a4;grind
     ·exact mem_singleton.mp h
    rw[key hs h',key hr h]
theorem Ak(hl:∀o∈os,o.2.1.length=p.length):Sg p.length os.length 0 (jO os) (sO os) [] (λi c=>if c<p.length then iI os i c else 0) (k8 os) ((bo p os).map (aG p.length)):=by
 have Gs:∀{r:Row},r∈bo p os->r.1≠.eq->∃i,i<os.length/\nK p.length os.length os i r/\jO os i=true:=λhr hk=>by
  rcases jH hl hr with⟨i,hi,h⟩|h
  ·refine⟨i,hi,h,?_⟩;unfold jO;rw[h.kd]at hk;exact decide_eq_true hk
  ·exact absurd h.kd hk
 have Ki:∀{r:Row} {i:Nat} {M:Rat},jO os i=true->(∀c,c<os.length->(aG p.length r).w c=if i=c then M else 0)->∀c,c<os.length->uo (jO os) (aG p.length r) c=if i=c then M else 0:=by
  intro r i M hj hw c hc;unfold uo;by_cases e:i=c
  ·subst e;rw[if_pos hj,hw i hc]
  ·rw[if_neg e];split
   ·rw[hw c hc,if_neg e]
   ·rfl
 refine⟨by omega,λr hr c hc=>by omega,λc hc=>by simp at hc,λr hr he i hi hj=>?_,λr hr he i hi hj=>?_,λr hr he=>?_,λr hr he=>?_,λr hr he c hc=>?_,λr hr he=>?_,λu hu=>?_⟩
 ·obtain⟨r,lR,rfl⟩:=mem_map.mp hr;rcases jH hl lR with⟨i',gW,h⟩|h
  ·obtain⟨M,mp,_,_,_,w1⟩:=h.ex;rw[w1 i hi];apply if_neg
   intro e;subst e;have h1:r.1=.eq:=he;rw[h.kd]at h1;unfold jO at hj;exact of_decide_eq_true hj h1
  ·obtain⟨M,mp,_,_,_,w1⟩:=h.ex;exact w1 i hi
 ·obtain⟨r,hr,rfl⟩:=mem_map.mp hr;obtain⟨i',gW,h,qU⟩:=Gs (by assumption) he;obtain⟨M,mp,_,_,_,w1⟩:=h.ex;rw[w1 i hi];split<;>grind
 ·obtain⟨r,hr,rfl⟩:=mem_map.mp hr;obtain⟨i',gW,h,qU⟩:=Gs (by assumption) he;obtain⟨M,mp,_,_,_,w1⟩:=h.ex;exact⟨i',gW,qU,by rw[w1 i' gW,if_pos rfl];exact mp⟩
 ·obtain⟨r,hr,rfl⟩:=mem_map.mp hr;obtain⟨i',gW,h,qU⟩:=Gs (by assumption) he;obtain⟨M,mp,_,_,_,w1⟩:=h.ex;have hk:(aG p.length r).kd=knd os i':=h.kd;rw[hk];constructor
  ·intro e;exact⟨i',gW,qU,decide_eq_true e,by rw[w1 i' gW,if_pos rfl];exact mp⟩
  ·rintro⟨i,hi,_,hs,hp⟩;rw[w1 i hi]at hp;by_cases e:i'=i
   ·subst e;exact of_decide_eq_true hs
   ·rw[if_neg e]at hp;grind
 ·obtain⟨r,hr,rfl⟩:=mem_map.mp hr;obtain⟨i',gW,h,qU⟩:=Gs (by assumption) he;obtain⟨M,mp,a1,a2,_,w1⟩:=h.ex;have e:=qr (k:=os.length) (i:=i') (f:=λi=>uo (jO os) (aG p.length r) i*(if c<p.length then iI os i c else 0)) gW (λc' iK cw=>by rw[Ki qU w1 c' iK,if_neg (Ne.symm cw)];grind);rw[e,Ki qU w1 i' gW,if_pos rfl];by_cases Cz:c<p.length
  ·rw[if_pos Cz,a1 c Cz]
  ·rw[if_neg Cz,show c=p.length by omega,a2];grind
 ·obtain⟨r,hr,rfl⟩:=mem_map.mp hr;obtain⟨i',gW,h,qU⟩:=Gs (by assumption) he;obtain⟨M,mp,_,_,b1,w1⟩:=h.ex;have e:=qr (k:=os.length) (i:=i') (f:=λi=>uo (jO os) (aG p.length r) i*k8 os i) gW (λc' iK cw=>by rw[Ki qU w1 c' iK,if_neg (Ne.symm cw)];grind);rw[e,Ki qU w1 i' gW,if_pos rfl,b1]
 ·
  obtain⟨i,hi,cw⟩:=hu.ne;have hj:jO os i=true:=by
   apply Classical.byContradiction
   intro z;exact cw (hu.i8.off i hi z)
  have ce:jR os.length (λi=>jO os i=true) [] (λi c=>if c<p.length then iI os i c else 0) (λc=>if i=c then 1 else 0):=by
   refine⟨λc hc=>?_,λc hc hz=>if_neg fun(e:i=c)=>hz (e▸hj),λc hc=>by simp at hc⟩;show(0:Rat)<=if i=c then 1 else 0;split<;>grind
  obtain⟨c,c0,hc⟩:=hu.alone _ ce λi' gW z=>if_neg fun(e:i=i')=>cw (e▸z);obtain⟨r,hr,hR⟩:=yL hl hi;obtain⟨M,mp,_,_,_,w1⟩:=hR.ex;have e1:=hc i hi;rw[if_pos rfl]at e1;have cp:0<c:=by
   rcases Rat.le_iff_lt_or_eq.mp c0 with h|h
   ·exact h
   ·rw[<- h]at e1;grind
  refine⟨aG p.length r,mem_map.mpr ⟨r,hr,rfl⟩,?_,M*c,bI mp cp,λi' gW qU=>?_⟩
  ·show r.1≠.eq;rw[hR.kd];unfold jO at hj;exact of_decide_eq_true hj
  ·have e2:=hc i' gW;rw[w1 i' gW];split
   ·rename_i e;rw[if_pos e]at e2;rw[show M*c*u i'=M*(c*u i') by grind,<- e2];grind
   ·rename_i e;rw[if_neg e]at e2;rw[show M*c*u i'=M*(c*u i') by grind,<- e2];grind
theorem Hi(hl:∀o∈os,o.2.1.length=p.length):∀r∈bo p os,nL p.length os.length (iI os) (k8 os) (λc=>p.getD c 0) (aG p.length r):=by
 intro r hr;rcases jH hl hr with⟨i,hi,h⟩|h
 ·obtain⟨M,mp,a1,a2,b1,w1⟩:=h.ex;refine⟨λc hc=>?_,?_⟩
  ·rw[qr (k:=os.length) (i:=i) (f:=λi=>(aG p.length r).w i*iI os i c) hi (λc' iK cw=>by rw[w1 c' iK,if_neg (Ne.symm cw)];grind),w1 i hi,if_pos rfl,a1 c hc,a2];grind
  ·rw[qr (k:=os.length) (i:=i) (f:=λi=>(aG p.length r).w i*k8 os i) hi (λc' iK cw=>by rw[w1 c' iK,if_neg (Ne.symm cw)];grind),w1 i hi,if_pos rfl,b1]
 ·obtain⟨M,mp,a1,a2,b1,w1⟩:=h.ex;refine⟨λc hc=>?_,?_⟩
  ·rw[gh (k:=os.length) (f:=λi=>(aG p.length r).w i*iI os i c) (λc' iK=>by rw[w1 c' iK];grind),a1 c hc,a2];grind
  ·rw[gh (k:=os.length) (f:=λi=>(aG p.length r).w i*k8 os i) (λc' iK=>by rw[w1 c' iK];grind),b1]
theorem uk(hl:∀o∈os,o.2.1.length=p.length):Run p.length os.length (jO os) (sO os) (iI os) (k8 os) (λc=>p.getD c 0) 0 (bG p os) (bo p os):=
 FE p.length 0 1 (bo p os) [] _ _ (by omega) rfl (tP hl) (Ak hl) (Hi hl)
def gy (strict:Bool) (β:Rat) (kt:Bool) (v:Rat):Bool:=if v=β then(!strict || kt)else decide (v<β)
def aJ (p:List Rat) (os:List Ol):List Row:=(bG p os).getD p.length []
def beyond (p:List Rat) (os:List Ol) (β:Rat):List Rat:=dP (bG p os) p.length (eO p.length (aJ p os) β)
def b9 (strict:Bool) (p:List Rat) (β:Rat) (os:List Ol):Bool×List Rat:=match never p.length (aJ p os)with
 |some w=>(true,w)
 |none=>match endOf p.length (aJ p os) 1 with
  |none=>(false,beyond p os β)
  |some t=>if gy strict β t.1 t.2.1=true then(true,t.2.2)else(false,beyond p os β)
def fZ (os:List Ol) (ws:List Rat) (c:Nat):Rat:=sm os.length λi=>ws.getD i 0*iI os i c
def jF (os:List Ol) (ws:List Rat):Rat:=sm os.length λi=>ws.getD i 0*k8 os i
def t9 (os:List Ol) (ws:List Rat):Prop:=∃i,i<os.length/\knd os i=.lt/\0<ws.getD i 0
structure LY (os:List Ol) (ws:List Rat):Prop where
 len:ws.length=os.length
 nn:∀i,i<os.length->knd os i≠.eq->0<=ws.getD i 0
def Right (os:List Ol) (ws:List Rat) (strict:Bool) (p:List Rat) (β:Rat):Prop:=
 LY os ws/\(((∀c,c<p.length->fZ os ws c=p.getD c 0)/\(jF os ws<β\/(jF os ws=β/\(strict=false\/t9 os ws))))\/((∀c,c<p.length->fZ os ws c=0)/\(jF os ws<0\/(jF os ws=0/\t9 os ws))))
def aB (p x:List Rat):Rat:=sm p.length λc=>p.getD c 0*x.getD c 0
def bE (o:Ol) (x:List Rat):Prop:=rel o.1 (aB o.2.1 x) o.2.2
structure vC (os:List Ol) (strict:Bool) (p:List Rat) (β:Rat) (x:List Rat):Prop where
 len:x.length=p.length
 others:∀o∈os,bE o x
 line:¬rel (if strict=true then .lt else .le) (aB p x) β
theorem tR{f:Int->Rat}(f0:f 0=0):((l.drop m).map f).getD i 0=f (l.getD (m+i) 0):=by
 rw[getD_eq_getElem?_getD,getD_eq_getElem?_getD,getElem?_map,List.getElem?_drop];cases l[m+i]? with
 |none=>exact f0.symm
 |some x=>rfl
theorem Wg(q:Rat):((0:Int):Rat)/q=0:=by
 show(0:Rat)/q=0;grind
theorem oO(n c:Nat):(List.replicate n (0:Rat)).getD c 0=0:=by
 rw[getD_eq_getElem?_getD,getElem?_replicate];split<;>rfl
theorem xt:lZ r (List.replicate (n+1) 0)=(aG n r).b:=by
 rw[zG (n:=n) (by rw[length_replicate])];have:vl n (aG n r) (xf (List.replicate (n+1) 0))=0:=gh λc _=>by
  show _*(List.replicate (n+1) (0:Rat)).getD c 0=0;rw[oO];grind
 rw[this];grind
structure UO (p:List Rat) (os:List Ol) (r:Row):Prop where
 len:r.2.length=p.length+2+os.length
 sums:∀c,c<p.length->sm os.length (λi=>(aG p.length r).w i*iI os i c)=(aG p.length r).a p.length*p.getD c 0
 bd:sm os.length (λi=>(aG p.length r).w i*k8 os i)=(aG p.length r).b
 xK:r.1=.eq->∀i,i<os.length->knd os i≠.eq->(aG p.length r).w i=0
 nn:r.1≠.eq->∀i,i<os.length->knd os i≠.eq->0<=(aG p.length r).w i
 st:r.1=.lt->∃i,i<os.length/\knd os i=.lt/\0<(aG p.length r).w i
 zero:∀c,c<p.length->(aG p.length r).a c=0
theorem Gy(hl:∀o∈os,o.2.1.length=p.length)(hr:r∈aJ p os):UO p os r:=by
 have I:=uk hl;obtain⟨E,B,β,S⟩:=I.last;have L:=I.Ti r (by rw[sub_zero];exact hr);have mem:aG p.length r∈((bG p os).getD (p.length-0) []).map (aG p.length):=mem_map.mpr ⟨r,by rw[sub_zero];exact hr,rfl⟩;have z:∀c,c<p.length->(aG p.length r).a c=0:=λc hc=>S.zero _ mem c hc;refine⟨I.rs.len r (by rw[sub_zero];exact hr),λc hc=>?_,L.b.symm,λhe i hi hk=>S.xK _ mem he i hi (decide_eq_true hk),λhe i hi hk=>S.nn _ mem he i hi (decide_eq_true hk),λhe=>?_,z⟩
 ·have:=L.a c hc;rw[z c hc]at this;grind
 ·obtain⟨i,hi,_,hs,hp⟩:=(S.st _ mem (by show r.1≠.eq;rw[he];simp)).mp he;exact⟨i,hi,of_decide_eq_true hs,hp⟩
structure Rj (p:List Rat) (os:List Ol) (ws:List Rat) (s b:Rat) (str:Bool):Prop where
 vi:LY os ws
 parts:∀c,c<p.length->fZ os ws c=s*p.getD c 0
 bd:jF os ws=b
 st:str=true->t9 os ws
variable {ws:List Rat}
theorem qH{q:Rat}(h:UO p os r)(hlen:ws.length=os.length)(hw:∀i,i<os.length->ws.getD i 0=q*(aG p.length r).w i)(hq:0<q\/r.1=.eq):Rj p os ws (q*(aG p.length r).a p.length) (q*(aG p.length r).b) (decide (r.1=.lt)):=by
 refine⟨⟨hlen,λi hi hk=>?_⟩,λc hc=>?_,?_,λe=>?_⟩
 ·rw[hw i hi];by_cases he:r.1=.eq
  ·rw[h.xK he i hi hk];grind
  ·rcases hq with hq|hq
   ·exact dk (le_of_lt hq) (h.nn he i hi hk)
   ·exact absurd hq he
 ·unfold fZ;rw[aQ (g:=λi=>q*((aG p.length r).w i*iI os i c)) (λi hi=>by rw[hw i hi];grind),bD,h.sums c hc];grind
 ·unfold jF;rw[aQ (g:=λi=>q*((aG p.length r).w i*k8 os i)) (λi hi=>by rw[hw i hi];grind),bD,h.bd]
 ·have e':=of_decide_eq_true e;obtain⟨i,hi,hk,hp⟩:=h.st e';refine⟨i,hi,hk,?_⟩;rw[hw i hi];rcases hq with hq|hq
  ·exact bI hq hp
  ·rw[e']at hq;cases hq
theorem wq(hl:∀o∈os,o.2.1.length=p.length)(iC:way=1\/way=-1){t:fG}(h:endOf p.length (aJ p os) way=some t):Rj p os t.2.2 (way:Rat) t.2.1 t.1:=by
 obtain⟨⟨r,hr,hc,k1,k2,k3⟩,_⟩:=(jD (aJ p os) p.length (List.replicate (p.length+1) 0) way).some t h;have L:=Gy hl hr;have pv:way*ent r p.length≠0:=by rcases hc with hc|⟨hc,_⟩<;>omega
 have qne:((way*ent r p.length:Int):Rat)≠0:=λz=>pv (bP.mp z);have qS:0<((way*ent r p.length:Int):Rat)⁻¹\/r.1=.eq:=by
  rcases hc with hc|⟨_,e⟩
  ·exact .inl (inv_pos.mpr (iX.mpr hc))
  ·exact .inr e
 have hlen:t.2.2.length=os.length:=by
  rw[k3];unfold nh;rw[length_map,length_drop,L.len,length_replicate];omega
 have hw:∀i,i<os.length->t.2.2.getD i 0=((way*ent r p.length:Int):Rat)⁻¹*(aG p.length r).w i:=λi hi=>by
  rw[k3];unfold nh;rw[length_replicate,tR (Wg _)];show(ent r (p.length+1+1+i):Rat)/_=_*(ent r (p.length+2+i):Rat);rw[show p.length+1+1+i=p.length+2+i by omega];grind
 have P:=qH L hlen hw qS;have e1:((way*ent r p.length:Int):Rat)⁻¹*(aG p.length r).a p.length=(way:Rat):=by
  show((way*ent r p.length:Int):Rat)⁻¹*(ent r p.length:Rat)=(way:Rat);have a0:(ent r p.length:Rat)≠0:=λz=>pv (by rw[bP.mp z];omega);rw[intCast_mul];rcases iC with e|e
  ·subst e;rw[Rat.intCast_one];grind
  ·subst e;have:((-1:Int):Rat)=-1:=rfl;rw[this];grind
 have e2:((way*ent r p.length:Int):Rat)⁻¹*(aG p.length r).b=t.2.1:=by
  rw[k2];unfold dN;rw[xt];grind
 rw[e1,e2,<- k1]at P;exact P
theorem yO{s strict:Bool}{β:Rat}(P:Rj p os ws 1 b s)(h:gy strict β s b=true):Right os ws strict p β:=by
 refine⟨P.vi,.inl ⟨λc hc=>by rw[P.parts c hc];grind,?_⟩⟩;rw[P.bd];unfold gy at h;split at h
 ·rename_i e;refine .inr ⟨e,?_⟩;cases strict with
  |false=>exact .inl rfl
  |true=>cases s with
   |false=>simp at h
   |true=>exact .inr (P.st rfl)
 ·exact .inl (of_decide_eq_true h)
theorem B7(hl:∀o∈os,o.2.1.length=p.length)(h:never p.length (aJ p os)=some ws):LY os ws/\(∀c,c<p.length->fZ os ws c=0)/\(jF os ws<0\/(jF os ws=0/\t9 os ws)):=by
 unfold never at h;cases hr:fA p.length (aJ p os)with
 |some w=>
  rw[hr]at h;cases h;unfold fA at hr;obtain⟨r,hf,e⟩:∃r,(aJ p os).find? (λr=>decide (ent r p.length=0)&&cL r.1 (ent r (p.length+1):Rat))=some r/\_=ws:=by
   cases hf:(aJ p os).find? (λr=>decide (ent r p.length=0)&&cL r.1 (ent r (p.length+1):Rat))with
   |none=>rw[hf]at hr;cases hr
   |some r=>rw[hf]at hr;exact⟨r,rfl,Option.some.inj hr⟩
  have hm:=mem_of_find?_eq_some hf;have hp:=find?_some hf;rw[and_eq_true,decide_eq_true_iff]at hp;obtain⟨h0,hn⟩:=hp;have L:=Gy hl hm;have hlen:ws.length=os.length:=by rw[<- e,length_map,length_drop,L.len];omega
  by_cases hw:r.1=.eq/\0<ent r (p.length+1)
  ·have zR:∀i,i<os.length->ws.getD i 0=(-1)*(aG p.length r).w i:=λi hi=>by
    rw[<- e,if_pos hw,tR (f:=fun(w:Int)=>(((-1:Int)*w:Int):Rat)) rfl,intCast_mul];rfl
   have P:=qH L hlen zR (.inr hw.1);refine⟨P.vi,λc hc=>?_,.inl ?_⟩
   ·rw[P.parts c hc];have:(aG p.length r).a p.length=0:=bP.mpr h0;rw[this];grind
   ·rw[P.bd];have:0<(aG p.length r).b:=iX.mpr hw.2;grind
  ·have zR:∀i,i<os.length->ws.getD i 0=1*(aG p.length r).w i:=λi hi=>by
    rw[<- e,if_neg hw,tR (f:=fun(w:Int)=>(((1:Int)*w:Int):Rat)) rfl,intCast_mul];rfl
   have P:=qH L hlen zR (.inl (by grind));have a0:(aG p.length r).a p.length=0:=bP.mpr h0;refine⟨P.vi,λc hc=>by rw[P.parts c hc,a0];grind,?_⟩;rw[P.bd];have eb:1*(aG p.length r).b=(ent r (p.length+1):Rat):=by show 1*(ent r (p.length+1):Rat)=_;grind
   rw[eb];cases hk:r.1 with
   |eq=>
    rw[hk]at hn;have lS:(ent r (p.length+1):Rat)≠0:=of_decide_eq_true hn;have TM:¬0<ent r (p.length+1):=λz=>hw ⟨hk,z⟩;have hn3:ent r (p.length+1)≠0:=λz=>lS (by rw[z];rfl);exact .inl (qO.mpr (by omega))
   |le=>rw[hk]at hn;exact .inl (of_decide_eq_true hn)
   |lt=>
    rw[hk]at hn;have lS:(decide ((ent r (p.length+1):Rat)<0) || decide ((ent r (p.length+1):Rat)=0))=true:=hn;rw[or_eq_true,decide_eq_true_iff,decide_eq_true_iff]at lS;rcases lS with z|z
    ·exact .inl z
    ·exact .inr ⟨z,P.st (decide_eq_true hk)⟩
 |none=>
  rw[hr]at h;have h':fI p.length (aJ p os)=some ws:=h;unfold fI at h';cases ht:endOf p.length (aJ p os) 1 with
  |none=>rw[ht]at h';cases h'
  |some t=>
   cases hb:endOf p.length (aJ p os) (-1)with
   |none=>rw[ht,hb]at h';cases h'
   |some b=>
    rw[ht,hb]at h';have h2:(if cL (if t.1=true\/b.1=true then .lt else .le) (t.2.1+b.2.1)=true then some (zipWith (λx y=>x+y) t.2.2 b.2.2)else none)=some ws:=h';by_cases hn:cL (if t.1=true\/b.1=true then .lt else .le) (t.2.1+b.2.1)=true
    ·rw[if_pos hn]at h2;have e:=Option.some.inj h2;have Pt:=wq hl (.inl rfl) ht;have Pb:=wq hl (.inr rfl) hb;have c1:((1:Int):Rat)=1:=rfl;have c2:((-1:Int):Rat)=-1:=rfl;rw[c1]at Pt;rw[c2]at Pb;have hlen:ws.length=os.length:=by rw[<- e,length_zipWith,Pt.vi.len,Pb.vi.len,min_self]
     have hw:∀i,i<os.length->ws.getD i 0=t.2.2.getD i 0+b.2.2.getD i 0:=λi hi=>by
      rw[<- e,getD_eq_getElem?_getD,getD_eq_getElem?_getD,getD_eq_getElem?_getD,List.getElem?_zipWith,getElem?_eq_getElem (by rw[Pt.vi.len];exact hi),getElem?_eq_getElem (by rw[Pb.vi.len];exact hi)];rfl
     have Tb:=Pt.vi.nn;have Td:=Pb.vi.nn;have hs:(t.1=true\/b.1=true)->t9 os ws:=by
      rintro(z|z)
      ·obtain⟨i,hi,hk,hp⟩:=Pt.st z;have:=Td i hi (by rw[hk];simp);exact⟨i,hi,hk,by rw[hw i hi];grind⟩
      ·obtain⟨i,hi,hk,hp⟩:=Pb.st z;have:=Tb i hi (by rw[hk];simp);exact⟨i,hi,hk,by rw[hw i hi];grind⟩
     have Yq:jF os ws=t.2.1+b.2.1:=by
      rw[<- Pt.bd,<- Pb.bd];unfold jF;rw[<- dZ];exact aQ λi hi=>by rw[hw i hi];grind
     refine⟨⟨hlen,λi hi hk=>?_⟩,λc hc=>?_,?_⟩
     ·have a:=Tb i hi hk;have b':=Td i hi hk;rw[hw i hi];grind
     ·have e1:fZ os ws c=fZ os t.2.2 c+fZ os b.2.2 c:=by
       unfold fZ;rw[<- dZ];exact aQ λi hi=>by rw[hw i hi];grind
      rw[e1,Pt.parts c hc,Pb.parts c hc];grind
     ·rw[Yq];split at hn
      ·rename_i hst;have lS:(decide (t.2.1+b.2.1<0) || decide (t.2.1+b.2.1=0))=true:=hn;rw[or_eq_true,decide_eq_true_iff,decide_eq_true_iff]at lS;exact lS.elim .inl λz=>.inr ⟨z,hs hst⟩
      ·exact .inl (of_decide_eq_true hn)
    ·rw[if_neg hn]at h2;cases h2
theorem vE(n:Nat)(t:Rat):xf (List.replicate n 0++[t])=put (xf (List.replicate (n+1) 0)) n t:=funext λc=>by
 show(List.replicate n 0++[t]).getD c 0=if c=n then t else(List.replicate (n+1) (0:Rat)).getD c 0;rw[oO,getD_eq_getElem?_getD];by_cases e:c=n
 ·rw[if_pos e,e,getElem?_append_right (by rw[length_replicate];omega),length_replicate,Nat.sub_self];rfl
 ·rw[if_neg e];by_cases h:c<n
  ·rw[getElem?_append_left (by rw[length_replicate];exact h),getElem?_replicate,if_pos h];rfl
  ·rw[List.getElem?_eq_none (by rw[length_append,length_replicate,length_singleton];omega)];rfl
theorem EW{y:Nat->Rat}(h:nK p.length os.length os i r)(hy:∀c,c<p.length->y c=x.getD c 0)(ho:(os.getD i (.eq,[],0)).2.1.length=p.length):Hd p.length y (aG p.length r)->bE (os.getD i (.eq,[],0)) x:=by
 obtain⟨M,mp,a1,a2,b1,_⟩:=h.ex;intro hd;unfold Hd at hd;have ev:vl p.length (aG p.length r) y=M*aB (os.getD i (.eq,[],0)).2.1 x:=by
  unfold vl aB;show sm p.length _+(aG p.length r).a p.length*y p.length=_;rw[a2,ho,<- bD,aQ (g:=λc=>M*(iI os i c*x.getD c 0)) (λc hc=>by rw[a1 c hc,hy c hc];grind)];show sm p.length (λc=>M*(iI os i c*x.getD c 0))+0*y p.length=_;have:sm p.length (λc=>M*(iI os i c*x.getD c 0))=sm p.length λc=>M*((os.getD i (.eq,[],0)).2.1.getD c 0*x.getD c 0):=rfl;rw[this];grind
 rw[ev,b1]at hd;have hk:(aG p.length r).kd=(os.getD i (.eq,[],0)).1:=h.kd;rw[hk]at hd;unfold bE;have hb:k8 os i=(os.getD i (.eq,[],0)).2.2:=rfl;rw[hb]at hd;generalize os.getD i (.eq,[],0)=o at *;cases zZ:o.1 with
 |eq=>
  rw[zZ]at hd;have dR:M*aB o.2.1 x=M*o.2.2:=hd;have:M*(aB o.2.1 x-o.2.2)=0:=by grind
  show aB o.2.1 x=o.2.2;rcases mul_eq_zero.mp this with z|z<;>grind
 |le=>rw[zZ]at hd;exact Rat.le_of_mul_le_mul_left hd mp
 |lt=>rw[zZ]at hd;exact Rat.lt_of_mul_lt_mul_left hd (le_of_lt mp)
theorem IW(hl:∀o∈os,o.2.1.length=p.length){t:Rat}(h:∀r∈aJ p os,Hd p.length (put (xf (List.replicate (p.length+1) 0)) p.length t) (aG p.length r)):
  (dP (bG p os) p.length t).length=p.length/\(∀o∈os,bE o (dP (bG p os) p.length t))/\aB p (dP (bG p os) p.length t)=t:=by
 have I:=uk hl;have h0:∀c,c<p.length->(List.replicate p.length 0++[t]).getD c 0=0:=λc hc=>by
  have:=congrFun (vE p.length t) c;have e:(List.replicate p.length 0++[t]).getD c 0=put (xf (List.replicate (p.length+1) 0)) p.length t c:=this;rw[e];unfold put;rw[if_neg (by omega)];exact oO _ _
 obtain⟨e1,e2,e3⟩:=KC I p.length (List.replicate p.length 0++[t]) (le_refl _) (by rw[length_append,length_replicate,length_singleton]) h0 (λr hr=>by rw[vE];exact h r hr);generalize hX:ee (bG p os) p.length (List.replicate p.length 0++[t])=X at e1 e2 e3;have hP:dP (bG p os) p.length t=X.take p.length:=by unfold dP;rw[hX]
 have hy:∀c,c<p.length->xf X c=(X.take p.length).getD c 0:=λc hc=>by
  show X.getD c 0=_;rw[getD_eq_getElem?_getD,getD_eq_getElem?_getD,List.getElem?_take,if_pos hc]
 have et:X.getD p.length 0=t:=by
  rw[e2];have:=congrFun (vE p.length t) p.length;have e:(List.replicate p.length 0++[t]).getD p.length 0=put (xf (List.replicate (p.length+1) 0)) p.length t p.length:=this;rw[e];unfold put;rw[if_pos rfl]
 rw[hP];refine⟨by rw[length_take,e1];omega,λo ho=>?_,?_⟩
 ·obtain⟨i,hi,e⟩:=List.getElem_of_mem ho;obtain⟨r,hr,hR⟩:=yL hl hi;have eo:os.getD i (.eq,[],0)=o:=by rw[getD_eq_getElem?_getD,getElem?_eq_getElem hi,e];rfl
  have:=EW hR hy (by rw[eo];exact hl o ho) (e3 r hr);rw[eo]at this;exact this
 ·have hs:=e3 (eZ p os.length) (by unfold bo;simp);obtain⟨M,mp,a1,a2,b1,_⟩:=(yD (p:=p) os.length).ex;unfold Hd at hs;have hk:(aG p.length (eZ p os.length)).kd=.eq:=rfl;rw[hk]at hs;have sM:vl p.length (aG p.length (eZ p os.length)) (xf X)=(aG p.length (eZ p os.length)).b:=hs;rw[b1]at sM;have ev:vl p.length (aG p.length (eZ p os.length)) (xf X)=(-M)*aB p (X.take p.length)+M*t:=by
   unfold vl aB;show sm p.length _+(aG p.length (eZ p os.length)).a p.length*xf X p.length=_;rw[a2,<- bD,aQ (g:=λc=>(-M)*(p.getD c 0*(X.take p.length).getD c 0)) (λc hc=>by rw[a1 c hc,hy c hc];grind)];show _+M*X.getD p.length 0=_;rw[et]
  rw[ev]at sM;have:M*(aB p (X.take p.length)-t)=0:=by grind
  rcases mul_eq_zero.mp this with z|z<;>grind
theorem BL(hl:∀o∈os,o.2.1.length=p.length)(hn:never p.length (aJ p os)=none){t:Rat}(hu:∀s v,vG (endOf p.length (aJ p os) 1)=some (s,v)->t<=v/\(s=true->t<v))(hb:∀s v,og (endOf p.length (aJ p os) (-1))=some (s,v)->v<=t/\(s=true->v<t)):
  ∀r∈aJ p os,Hd p.length (put (xf (List.replicate (p.length+1) 0)) p.length t) (aG p.length r):=by
 intro r hr;have T:=qk (n:=p.length) (j:=p.length) (rows:=aJ p os) (x:=List.replicate (p.length+1) 0) (by rw[length_replicate]) (le_refl _) (oO _ _);have Bt:=qm (n:=p.length) (j:=p.length) (rows:=aJ p os) (x:=List.replicate (p.length+1) 0) (by rw[length_replicate]) (le_refl _) (oO _ _);have mem:aG p.length r∈(aJ p os).map (aG p.length):=mem_map.mpr ⟨r,hr,rfl⟩;have PQ:fA p.length (aJ p os)=none:=by
  unfold never at hn;cases h:fA p.length (aJ p os)with
  |none=>rfl
  |some w=>rw[h]at hn;cases hn
 by_cases h0:ent r p.length=0
 ·have a0:(aG p.length r).a p.length=0:=bP.mpr h0;have hf:cL r.1 (ent r (p.length+1):Rat)=false:=by
   unfold fA at PQ;rw[Option.map_eq_none_iff]at PQ;have:=List.find?_eq_none.mp PQ r hr;cases hz:cL r.1 (ent r (p.length+1):Rat)with
   |false=>rfl
   |true=>rw[hz]at this;exact absurd (by simp[h0]) this
  rw[A4 (le_refl _) a0];have hv:vl p.length (aG p.length r) (xf (List.replicate (p.length+1) 0))=0:=gh λc _=>by
   show _*(List.replicate (p.length+1) (0:Rat)).getD c 0=0;rw[oO];grind
  unfold Hd;rw[hv];show rel r.1 0 (ent r (p.length+1):Rat);generalize (ent r (p.length+1):Rat)=b at hf;cases hk:r.1 with
  |eq=>rw[hk]at hf;have:=of_decide_eq_false hf;show 0=b;grind
  |le=>rw[hk]at hf;have:=of_decide_eq_false hf;show 0<=b;grind
  |lt=>
   rw[hk]at hf;have A1:(decide (b<0) || decide (b=0))=false:=hf;rw[Bool.or_eq_false_iff,decide_eq_false_iff_not,decide_eq_false_iff_not]at A1;show 0<b;grind
 ·
  have up:isUp (aG p.length r) p.length->t<=Nm p.length (aG p.length r) (xf (List.replicate (p.length+1) 0)) p.length/\(r.1=.lt->t<Nm p.length (aG p.length r) (xf (List.replicate (p.length+1) 0)) p.length):=by
   intro hi;cases hg:vG (endOf p.length (aJ p os) 1)with
   |none=>exact absurd hi (T.none hg _ mem)
   |some g=>
    obtain⟨s,v⟩:=g;obtain⟨h1,h2⟩:=(T.some s v hg).2 _ mem hi;obtain⟨h3,h4⟩:=hu s v hg;refine⟨by grind,λe=>?_⟩;by_cases z:Nm p.length (aG p.length r) (xf (List.replicate (p.length+1) 0)) p.length=v
    ·have:=h4 (h2 e z);grind
    ·grind
  have lo:ph (aG p.length r) p.length->Nm p.length (aG p.length r) (xf (List.replicate (p.length+1) 0)) p.length<=t/\(r.1=.lt->Nm p.length (aG p.length r) (xf (List.replicate (p.length+1) 0)) p.length<t):=by
   intro hi;cases hg:og (endOf p.length (aJ p os) (-1))with
   |none=>exact absurd hi (Bt.none hg _ mem)
   |some g=>
    obtain⟨s,v⟩:=g;obtain⟨h1,h2⟩:=(Bt.some s v hg).2 _ mem hi;obtain⟨h3,h4⟩:=hb s v hg;refine⟨by grind,λe=>?_⟩;by_cases z:Nm p.length (aG p.length r) (xf (List.replicate (p.length+1) 0)) p.length=v
    ·have:=h4 (h2 e z);grind
    ·grind
  have a0:(aG p.length r).a p.length≠0:=λz=>h0 (bP.mp z);unfold Hd;by_cases hp:0<(aG p.length r).a p.length
  ·cases hk:r.1 with
   |eq=>
    have kr:(aG p.length r).kd=.eq:=hk;rw[kr];have a:=(up (.inl hp)).1;have b:=(lo (.inr ⟨hp,hk⟩)).1;exact(pK (le_refl _) a0).mpr (by grind)
   |le=>
    have kr:(aG p.length r).kd=.le:=hk;rw[kr];exact(Dv (le_refl _) hp).mpr (up (.inl hp)).1
   |lt=>
    have kr:(aG p.length r).kd=.lt:=hk;rw[kr];exact(Du (le_refl _) hp).mpr ((up (.inl hp)).2 hk)
  ·have lS:(aG p.length r).a p.length<0:=by grind
   cases hk:r.1 with
   |eq=>
    have kr:(aG p.length r).kd=.eq:=hk;rw[kr];have a:=(up (.inr ⟨lS,hk⟩)).1;have b:=(lo (.inl lS)).1;exact(pK (le_refl _) a0).mpr (by grind)
   |le=>
    have kr:(aG p.length r).kd=.le:=hk;rw[kr];exact(lo_le (le_refl _) lS).mpr (lo (.inl lS)).1
   |lt=>
    have kr:(aG p.length r).kd=.lt:=hk;rw[kr];exact(E7 (le_refl _) lS).mpr ((lo (.inl lS)).2 hk)
theorem xP(hn:never p.length (aJ p os)=none){s s':Bool}{v':Rat}(hu:vG (endOf p.length (aJ p os) 1)=some (s,v))(hb:og (endOf p.length (aJ p os) (-1))=some (s',v')):v'<=v/\(s=true\/s'=true->v'<v):=by
 have cw:fI p.length (aJ p os)=none:=by
  unfold never at hn;cases h:fA p.length (aJ p os)with
  |none=>rw[h]at hn;exact hn
  |some w=>rw[h]at hn;cases hn
 unfold fI at cw;cases ht:endOf p.length (aJ p os) 1 with
 |none=>rw[ht]at hu;cases hu
 |some t=>
  cases xF:endOf p.length (aJ p os) (-1)with
  |none=>rw[xF]at hb;cases hb
  |some b=>
   rw[ht]at hu;rw[xF]at hb;have GL:(t.1,t.2.1)=(s,v):=Option.some.inj hu;have A7:(b.1,0-b.2.1)=(s',v'):=Option.some.inj hb;injection GL with u1 u2;injection A7 with b1 b2;rw[ht,xF]at cw;have h2:(if cL (if t.1=true\/b.1=true then .lt else .le) (t.2.1+b.2.1)=true then some (zipWith (λx y=>x+y) t.2.2 b.2.2)else none)=none:=cw;by_cases hz:cL (if t.1=true\/b.1=true then .lt else .le) (t.2.1+b.2.1)=true
   ·rw[if_pos hz]at h2;cases h2
   ·split at hz
    ·have zO:¬(decide (t.2.1+b.2.1<0) || decide (t.2.1+b.2.1=0))=true:=hz;rw[or_eq_true,decide_eq_true_iff,decide_eq_true_iff]at zO;have z1:¬t.2.1+b.2.1<0:=λz=>zO (.inl z);have z2:¬t.2.1+b.2.1=0:=λz=>zO (.inr z);exact⟨by grind,λ_=>by grind⟩
    ·rename_i hst;have z1:¬t.2.1+b.2.1<0:=λz=>hz (decide_eq_true z);exact⟨by grind,λz=>absurd (by rw[u1,b1];exact z) hst⟩
theorem xZ(hl:∀o∈os,o.2.1.length=p.length){strict:Bool}{β:Rat}(hn:never p.length (aJ p os)=none)(hk:∀t,endOf p.length (aJ p os) 1=some t->gy strict β t.1 t.2.1=false):vC os strict p β (beyond p os β):=by

 have key:∀lst:Rat,β<=lst->(∀s v,og (endOf p.length (aJ p os) (-1))=some (s,v)->v<=lst/\(lst=v\/lst=β))->(og (endOf p.length (aJ p os) (-1))=none->lst=β)->
   (∀r∈aJ p os,Hd p.length (put (xf (List.replicate (p.length+1) 0)) p.length (gM (some lst) (gI (endOf p.length (aJ p os) 1)))) (aG p.length r))/\¬rel (if strict=true then .lt else .le) (gM (some lst) (gI (endOf p.length (aJ p os) 1))) β:=by
  intro lst h1 h2 h3;cases ht:endOf p.length (aJ p os) 1 with
  |none=>
   have eb:gM (some lst) (gI none)=lst+1:=rfl;rw[eb];refine⟨BL hl hn (λs v e=>by rw[ht]at e;cases e) (λs v e=>?_),?_⟩
   ·obtain⟨a,_⟩:=h2 s v e;exact⟨by grind,λ_=>by grind⟩
   ·cases strict with
    |true=>show ¬lst+1<β;grind
    |false=>show ¬lst+1<=β;grind
  |some t=>
   have eb:gM (some lst) (gI (some t))=(lst+t.2.1)/2:=rfl;rw[eb];have xD:=hk t ht;have Jm:vG (endOf p.length (aJ p os) 1)=some (t.1,t.2.1):=by rw[ht];rfl
   unfold gy at xD;have dA:β<=t.2.1/\(t.2.1=β->strict=true/\t.1=false):=by
    split at xD
    ·rename_i e;refine⟨by grind,λ_=>?_⟩;cases strict with
     |false=>simp at xD
     |true=>exact⟨rfl,by simpa using xD⟩
    ·rename_i e;have:=of_decide_eq_false xD;exact⟨by grind,λz=>absurd z e⟩
   have Jr:lst<=t.2.1/\(t.1=true->lst<t.2.1):=by
    cases hb:og (endOf p.length (aJ p os) (-1))with
    |none=>
     rw[h3 hb];refine⟨dA.1,λz=>?_⟩;have:t.2.1≠β:=λe=>by have:=(dA.2 e).2;rw[z]at this;cases this
     have:=dA.1;grind
    |some b=>
     obtain⟨s',v'⟩:=b;obtain⟨r1,r2⟩:=xP hn Jm hb;obtain⟨q1,q2⟩:=h2 s' v' hb;rcases q2 with q2|q2
     ·rw[q2];exact⟨r1,λz=>r2 (.inl z)⟩
     ·rw[q2];refine⟨dA.1,λz=>?_⟩;have:t.2.1≠β:=λe=>by have:=(dA.2 e).2;rw[z]at this;cases this
      have:=dA.1;grind
   refine⟨BL hl hn (λs v e=>?_) (λs v e=>?_),?_⟩
   ·rw[Jm]at e;have e':(t.1,t.2.1)=(s,v):=Option.some.inj e;injection e' with u1 u2;rw[<- u1,<- u2];refine⟨by have:=Jr.1;grind,λz=>?_⟩;have:=Jr.2 z;grind
   ·obtain⟨q1,q2⟩:=h2 s v e;have a:=Jr.1;refine⟨by grind,λz=>?_⟩;obtain⟨r1,r2⟩:=xP hn Jm e;have:=r2 (.inr z);grind
   ·cases strict with
    |true=>
     show ¬(lst+t.2.1)/2<β;have:=dA.1;grind
    |false=>
     show ¬(lst+t.2.1)/2<=β;have a:=dA.1;have b:t.2.1≠β:=λe=>by have:=(dA.2 e).1;cases this
     grind
 have VZ:∃lst:Rat,β<=lst/\(∀s v,og (endOf p.length (aJ p os) (-1))=some (s,v)->v<=lst/\(lst=v\/lst=β))/\(og (endOf p.length (aJ p os) (-1))=none->lst=β)/\eO p.length (aJ p os) β=gM (some lst) (gI (endOf p.length (aJ p os) 1)):=by
  unfold eO;cases hb:endOf p.length (aJ p os) (-1)with
  |none=>exact⟨β,by grind,(λs v e=>by cases e),λ_=>rfl,rfl⟩
  |some b=>
   by_cases c:0-b.2.1<β
   ·refine⟨β,by grind,λs v e=>?_,λ_=>rfl,?_⟩
    ·have e':(b.1,0-b.2.1)=(s,v):=Option.some.inj e;injection e' with u1 u2;exact⟨by grind,.inr rfl⟩
    ·show gM (some (if 0-b.2.1<β then β else 0-b.2.1)) _=_;rw[if_pos c]
   ·refine⟨0-b.2.1,by grind,λs v e=>?_,(λe=>by cases e),?_⟩
    ·have e':(b.1,0-b.2.1)=(s,v):=Option.some.inj e;injection e' with u1 u2;exact⟨by grind,.inl u2⟩
    ·show gM (some (if 0-b.2.1<β then β else 0-b.2.1)) _=_;rw[if_neg c]
 obtain⟨lst,a1,a2,a3,a4⟩:=VZ;obtain⟨b1,b2⟩:=key lst a1 a2 a3;rw[<- a4]at b1 b2;obtain⟨c1,c2,c3⟩:=IW hl b1;exact⟨c1,c2,by show ¬rel _ (aB p (dP (bG p os) p.length _)) β;rw[c3];exact b2⟩
theorem sh(hl:∀o∈os,o.2.1.length=p.length)(strict:Bool)(β:Rat):((b9 strict p β os).1=true/\Right os (b9 strict p β os).2 strict p β)\/((b9 strict p β os).1=false/\vC os strict p β (b9 strict p β os).2):=by
 unfold b9;cases hn:never p.length (aJ p os)with
 |some w=>
  obtain⟨h1,h2,h3⟩:=B7 hl hn;exact .inl ⟨rfl,h1,.inr ⟨h2,h3⟩⟩
 |none=>
  cases ht:endOf p.length (aJ p os) 1 with
  |none=>exact .inr ⟨rfl,xZ hl hn λt e=>by rw[ht]at e;cases e⟩
  |some t=>
   dsimp only;by_cases c:gy strict β t.1 t.2.1=true
   ·rw[if_pos c];have P:=wq hl (.inl rfl) ht;have c1:((1:Int):Rat)=1:=rfl;rw[c1]at P;exact .inl ⟨rfl,yO P c⟩
   ·rw[if_neg c];refine .inr ⟨rfl,xZ hl hn λt' e=>?_⟩;rw[ht]at e;cases e;simpa using c
end
end FM
set_option maxHeartbeats 4000000
namespace L3
noncomputable section
open PySem PySem.Spec PyProof.Rows L2
open PySem.W (Dat kqdOk)
theorem CW(a b:Int):eqB (.int a) (.int b)=some (decide (a=b)):=by
 have h:eqB (.int a) (.int b)=if kqdOk 9 (.int a)=true/\kqdOk 9 (.int b)=true then some (lL (.int a) (.int b))else none:=rfl;rw[h,if_pos ⟨rfl,rfl⟩];congr 1
 by_cases e:a=b
 ·rw[lB (by rw[e]),decide_eq_true e]
 ·rw[lC (λz=>e (by injection z)),decide_eq_false e]
theorem fq(a b:Int):cM (.int a) (.int b)=some (.bool (decide (a=b))):=by unfold cM;rw[CW];rfl
theorem fm(a b:Int):gK (.int a) (.int b)=some (.bool (!decide (a=b))):=by unfold gK;rw[CW];rfl
theorem fS(a b:Int):DC (.int a) (.int b)=some (.int (a-b)):=je trivial
theorem dh(a b:Int):Gx (.int a) (.int b)=some (.bool (decide (a<b))):=je trivial
theorem Cr(a b:Int):Tj (.int a) (.int b)=some (.bool (decide (a<=b))):=je trivial
theorem gS(a b:Int):Hb (.int a) (.int b)=some (.bool (decide (b<a))):=je trivial
theorem CI(a b:Int):Uh (.int a) (.int b)=some (.bool (decide (b<=a))):=je trivial
variable {a b:Int}
theorem i5(h:b≠0):vW (.int a) (.int b)=some (.int (a.fmod b)):=je h
theorem iZ(h:b≠0)(_:b.natAbs.log2<9000000):si (.int a) (.int b)=some (.int (a.fdiv b)):=je h
theorem pf(h:IntMulOk a b):jK (.int a) (.int b)=some (.int (a*b)):=je h
theorem c9(a b:Int):kC (.int a) (.int b)=some (.int (a+b)):=rfl
theorem jP(c:Int):Ex [.int c]=some (.int (c.natAbs:Int)):=by
 show some (Dat.int (if c<0 then -c else c))=_;congr 2
 split<;>omega
variable {g1 g2:aw->Option Fl} {af Γ:aw}
theorem aA(h:g1 Γ=some (.nx af)):du g1 g2 Γ=g2 af:=by unfold du;rw[h];rfl
variable {d:Dat}
theorem Mf(h:g1 Γ=some (.rt d)):du g1 g2 Γ=some (.rt d):=by unfold du;rw[h];rfl
variable {f:ar->Option Dat} {i:Nat}
theorem kP(h:f (bj Γ)=some d):iA i f Γ=some (.nx (Γ.set i (some (.a7 d)))):=by unfold iA;rw[h]
variable {ft:ar->Option Bool}
theorem nt(h:ft (c7 Γ)=some true):mG ft g1 g2 Γ=g1 Γ:=by unfold mG;rw[h];rfl
theorem nv(h:ft (c7 Γ)=some false):mG ft g1 g2 Γ=g2 Γ:=by unfold mG;rw[h];rfl
theorem BP(h:f (c7 Γ)=some d):nW f Γ=some (.rt d):=by unfold nW;rw[h];rfl
variable {gb:aw->Option Fl} {n:Nat}
theorem yw(h:ft (c7 Γ)=some false):fR ft gb (n+1) Γ=some (.nx Γ):=by show(ft (c7 Γ)).bind _=_;rw[h];rfl
theorem yv(h:ft (c7 Γ)=some true)(h2:gb Γ=some (.nx af)):fR ft gb (n+1) Γ=fR ft gb n af:=by
 show(ft (c7 Γ)).bind _=_;rw[h];show(gb Γ).bind _=_;rw[h2];rfl
variable {ds:List Dat}
theorem bX{N:List Str}{g:aw->Option Fl}(h:g (cY N ds)=some (.rt d)):jG N g ds=some d:=by unfold jG;rw[h]
open PySem PySem.Spec PyProof.Rows L2
open PySem.W (Dat kqdOk)
theorem de{gt:Dat->Option cN}{fe:ar->Option Dat}{kI:ar}:∀(ak out:List Dat),ak.length=out.length->(∀(i:Nat) (d o:Dat),ak[i]?=some d->out[i]?=some o->∃as,gt d=some as/\fe (jE kI as)=some o)->bV gt fk fe kI ak=some out
 |[],[],_,_=>rfl
 |[],_::_,h,_=>by simp at h
 |_::_,[],h,_=>by simp at h
 |d::ak,o::out,h,st=>by
  obtain⟨as,e1,e2⟩:=st 0 d o rfl rfl;have ih:=de ak out (by simpa using h) λi d' o' h1 h2=>st (i+1) d' o' (by simpa using h1) (by simpa using h2);simp only[bV,e1,Option.bind_some,fk,if_true,e2,ih,map_some]
open PySem PySem.Spec PyProof.Rows L2
open PySem.W (Dat kqdOk)
theorem pG{gt:Dat->Option cN}{gb:aw->Option Fl}{β τ:Type}(enc:β->Dat)(St:τ->aw->Prop)(Q:τ->List β->Prop)(dG:τ->β->τ)(step:∀s p l Γ,Q s (p::l)->St s Γ->∃as,gt (enc p)=some as/\∃af,gb (setG Γ as)=some (.nx af)/\St (dG s p) af/\Q (dG s p) l):∀(l:List β) (s:τ) (Γ:aw),Q s l->St s Γ->∃af,forL gt gb (l.map enc) Γ=some (.nx af)/\St (l.foldl dG s) af
 |[],s,Γ,_,h=>⟨Γ,rfl,h⟩
 |p::l,s,Γ,q,h=>by
  obtain⟨as,e1,Γ1,e2,h1,q1⟩:=step s p l Γ q h;obtain⟨iP,e3,h2⟩:=pG enc St Q dG step l (dG s p) Γ1 q1 h1;refine⟨iP,?_,h2⟩;rw[map_cons];show(gt (enc p)).bind _=_;rw[e1];show(gb (setG Γ as)).bind _=_;rw[e2];exact e3
variable {gt:Dat->Option cN} {β τ:Type}
theorem gX(enc:β->Dat)(St:τ->aw->Prop)(Q:τ->List β->Prop)(dG:τ->β->τ){l:List β}{s:τ}(hf:f (bj Γ)=some d)(hi:cI d=some (l.map enc))(hq:Q s l)(hs:St s Γ)(step:∀s p l Γ,Q s (p::l)->St s Γ->∃as,gt (enc p)=some as/\∃af,gb (setG Γ as)=some (.nx af)/\St (dG s p) af/\Q (dG s p) l):∃af,nX gt gb f Γ=some (.nx af)/\St (l.foldl dG s) af:=by
 obtain⟨af,e,h⟩:=pG (gt:=gt) (gb:=gb) enc St Q dG step l s Γ hq hs;refine⟨af,?_,h⟩;unfold nX;rw[hf];show(cI d).bind _=_;rw[hi];exact e
theorem xH{gt:Dat->Option cN}{gb:aw->Option Fl}{β:Type}(enc:β->Dat)(I:aw->Prop)(p:β->Bool)(rt:β->Dat):∀(l:List β) (Γ:aw),I Γ->(∀x∈l,∀Γ,I Γ->∃as,gt (enc x)=some as/\if p x=true then gb (setG Γ as)=some (.rt (rt x))else ∃af,gb (setG Γ as)=some (.nx af)/\I af)->
  (∃x,l.find? p=some x/\forL gt gb (l.map enc) Γ=some (.rt (rt x)))\/(l.find? p=none/\∃af,forL gt gb (l.map enc) Γ=some (.nx af)/\I af)
 |[],Γ,h,_=>.inr ⟨rfl,Γ,rfl,h⟩
 |x::l,Γ,h,st=>by
  obtain⟨as,e1,e2⟩:=st x mem_cons_self Γ h;by_cases c:p x=true
  ·rw[if_pos c]at e2;refine .inl ⟨x,by rw[List.find?_cons_of_pos c],?_⟩;rw[map_cons];show(gt (enc x)).bind _=_;rw[e1];show(gb (setG Γ as)).bind _=_;rw[e2];rfl
  ·rw[if_neg c]at e2;obtain⟨Γ1,e2,h1⟩:=e2;have e3:forL gt gb ((x::l).map enc) Γ=forL gt gb (l.map enc) Γ1:=by
    rw[map_cons];show(gt (enc x)).bind _=_;rw[e1];show(gb (setG Γ as)).bind _=_;rw[e2];rfl
   rw[e3,List.find?_cons_of_neg c];exact xH enc I p rt l Γ1 h1 λy hy=>st y (mem_cons_of_mem _ hy)
theorem xI(enc:β->Dat)(I:aw->Prop)(p:β->Bool)(rt:β->Dat){l:List β}{fl:Option β->Fl}(hf:f (bj Γ)=some d)(hi:cI d=some (l.map enc))(hs:I Γ)(st:∀x∈l,∀Γ,I Γ->∃as,gt (enc x)=some as/\if p x=true then gb (setG Γ as)=some (.rt (rt x))else ∃af,gb (setG Γ as)=some (.nx af)/\I af)(h1:∀x,fl (some x)=.rt (rt x))(h2:∀af,I af->g2 af=some (fl none)):
  du (nX gt gb f) g2 Γ=some (fl (l.find? p)):=by
 have e:nX gt gb f Γ=forL gt gb (l.map enc) Γ:=by
  unfold nX;rw[hf];show(cI d).bind _=_;rw[hi];rfl
 unfold du;rw[e];rcases xH enc I p rt l Γ hs st with⟨x,e1,e2⟩|⟨e1,af,e2,h'⟩
 ·rw[e1,e2,h1];rfl
 ·rw[e1,e2];exact h2 af h'
theorem gm{fl:Fl}(I:aw->Prop)(h:∃af,g1 Γ=some (.nx af)/\I af)(fin:∀af,I af->g2 af=some fl):du g1 g2 Γ=some fl:=by
 obtain⟨af,e,h⟩:=h;unfold du;rw[e];exact fin af h
open PySem PySem.Spec PyProof.Rows L2
open PySem.W (Dat kqdOk)
theorem i9{gt:Dat->Option cN}{ft:ar->Option Bool}{fe:ar->Option Dat}{kI:ar}{β:Type}(enc:β->Dat)(tQ:β->Dat)(p:β->Bool):∀(l:List β),(∀x∈l,∃as,gt (enc x)=some as/\ft (jE kI as)=some (p x)/\(p x=true->fe (jE kI as)=some (tQ x)))->bV gt ft fe kI (l.map enc)=some ((l.filter p).map tQ)
 |[],_=>rfl
 |x::l,h=>by
  obtain⟨as,e1,e2,e3⟩:=h x mem_cons_self;have ih:=i9 enc tQ p l λy hy=>h y (mem_cons_of_mem _ hy);rw[map_cons,bV,e1,Option.bind_some,e2,Option.bind_some,filter_cons];by_cases c:p x=true
  ·rw[if_pos c,if_pos c,e3 c,Option.bind_some,ih];rfl
  ·rw[if_neg c,if_neg c];exact ih
variable {I:aw->Prop}
theorem MX{A:aw->Option Fl}{J:aw->Prop}(h:∃af,A Γ=some (.nx af)/\I af)(k:∀af,I af->J af):∃af,A Γ=some (.nx af)/\J af:=let ⟨af,e,i⟩:=h;⟨af,e,k af i⟩
open PySem PySem.Spec PyProof.Rows L2
open PySem.W (Dat kqdOk)
variable {fi:ar->Option (List Dat)}
theorem ly(enc:β->Dat)(St:τ->aw->Prop)(Q:τ->List β->Prop)(dG:τ->β->τ){l:List β}{s:τ}(hf:fi (bj Γ)=some (l.map enc))(hq:Q s l)(hs:St s Γ)(step:∀s p l Γ,Q s (p::l)->St s Γ->∃as,gt (enc p)=some as/\∃af,gb (setG Γ as)=some (.nx af)/\St (dG s p) af/\Q (dG s p) l):∃af,lW gt gb fi Γ=some (.nx af)/\St (l.foldl dG s) af:=by
 obtain⟨af,e,h⟩:=pG (gt:=gt) (gb:=gb) enc St Q dG step l s Γ hq hs;refine⟨af,?_,h⟩;unfold lW;rw[hf];exact e
variable {out:List Dat}
theorem BN{g:ar->Option (List Dat)}(h:g (bj Γ)=some out):lV i g Γ=some (.nx (Γ.set i (some (.a7 (.list out))))):=by
 unfold lV;rw[h];rfl
variable {ρ:ar}
theorem AD{aW:List (Option Nat)}{fe:ar->Option Dat}(h:fi ρ=some ds)(hl:ds.length<sizeLine)(hc:bV gt ft fe (dm aW ρ) ds=some out):fB aW gt ft fe fi ρ=some out:=by
 unfold fB;rw[h,Option.bind_some,if_pos hl,hc]
variable {rg:List Dat->Option (List Dat)}
theorem mQ{fs:ar->Option (List Dat)}{as:List Dat}(h:fs ρ=some as)(h2:rg as=some ds):qP rg fs ρ=some ds:=by
 unfold qP;rw[h];exact h2
end
end L3
namespace FM
noncomputable section
open PySem
theorem qM{l:List Int}{p:Nat}(h:l.getD p 0≠0):∃x∈l,x≠0:=⟨_,mem_getD h,h⟩
variable {E:List Nat} {j n k:Nat} {β:Nat->Rat} {B:Nat->Nat->Rat} {J:Nat->Bool}
variable {St:Nat->Bool} in
theorem MH{rows:List Row}(hR:Rs n k rows)(S:Sg n k j J St E B β (rows.map (aG n)))(hn:eM j rows=none):
  ∀u∈rows,∀l∈rows,0<ent u j->ent l j<0->∃x∈fV u.2 (-ent l j) l.2 (ent u j),x≠0:=by
 have mem:∀{r:Row},r∈rows->aG n r∈rows.map (aG n):=λh=>mem_map.mpr ⟨_,h,rfl⟩;have p9:∀r∈rows,r.1=.eq->ent r j=0:=λr hr he=>by
  have:=List.find?_eq_none.mp hn r hr;apply Classical.byContradiction
  intro z;exact this (by simp[he,z])
 have kq:∀{r:Row},r∈rows->ent r j≠0->(aG n r).kd≠.eq:=λhr h e=>h (p9 _ hr e);intro up hu lo hl pu pl;obtain⟨i,hi,hj,hp⟩:=S.pos (aG n up) (mem hu) (kq hu (by omega));have b:=S.nn (aG n lo) (mem hl) (kq hl (by omega)) i hi hj;have gz:0<ent up (n+2+i):=iX.mp hp;have A7:0<=ent lo (n+2+i):=by
  have b':(0:Rat)<=(ent lo (n+2+i):Rat):=b;have:((0:Int):Rat)<=(ent lo (n+2+i):Rat):=b';exact Rat.intCast_le_intCast.mp this
 have h1:=mul_pos (show 0 < -ent lo j by omega) gz;have h2:=Int.mul_nonneg (Int.le_of_lt pu) A7;refine qM (p:=n+2+i) ?_;rw[mL (by rw[hR.len up hu,hR.len lo hl])];have e1:up.2.getD (n+2+i) 0=ent up (n+2+i):=rfl;have e2:lo.2.getD (n+2+i) 0=ent lo (n+2+i):=rfl;rw[e1,e2];omega
variable {St:Nat->Bool} in
theorem RI{rows:List Row}{q r:Row}(hR:Rs n k rows)(S:Sg n k j J St E B β (rows.map (aG n)))(hq:q∈rows)(qe:q.1=.eq)(q0:ent q j≠0)(hr:r∈rows)(cw:r≠q):
  ∃x∈fV r.2 ((ent q j).natAbs:Int) q.2 (if 0<ent q j then -ent r j else ent r j),x≠0:=by
 have mem:∀{r:Row},r∈rows->aG n r∈rows.map (aG n):=λh=>mem_map.mpr ⟨_,h,rfl⟩;have hl:r.2.length=q.2.length:=by rw[hR.len r hr,hR.len q hq]
 have ab:((ent q j).natAbs:Int)≠0:=by omega
 by_cases he:r.1=.eq
 ·obtain⟨p,h1,h2⟩:=hR.DV r hr he;refine qM (p:=p) ?_;rw[mL hl];have e1:q.2.getD p 0=ent q p:=rfl;have e2:r.2.getD p 0=ent r p:=rfl;rw[e1,e2,h2 q hq qe (Ne.symm cw)];have:=mul_ne_zero ab h1;rw[mul_zero];omega
 ·obtain⟨i,hi,hj,hp⟩:=S.pos (aG n r) (mem hr) he;have hz:=S.xK (aG n q) (mem hq) qe i hi hj;have zO:ent q (n+2+i)=0:=bP.mp hz;have gz:0<ent r (n+2+i):=iX.mp hp;refine qM (p:=n+2+i) ?_;rw[mL hl];have e1:q.2.getD (n+2+i) 0=ent q (n+2+i):=rfl;have e2:r.2.getD (n+2+i) 0=ent r (n+2+i):=rfl;rw[e1,e2,zO,mul_zero];have:=mul_ne_zero ab (show ent r (n+2+i)≠0 by omega);omega
def bt:Nat->Nat->Nat
 |b,0=>b
 |b,i+1=>bt (2*b+1) i
theorem pL:∀(i b:Nat),b<=bt b i
 |0,b=>le_refl _
 |i+1,b=>le_trans (by omega) (pL i (2*b+1))
def cb:Nat->Nat->Nat
 |r,0=>r
 |r,i+1=>cb (r+r*r/4) i
theorem LG:∀(i r:Nat),r<=cb r i
 |0,r=>le_refl _
 |i+1,r=>le_trans (le_add_right _ _) (LG i _)
theorem sD:∀(i:Nat) {r s:Nat},r<=s->cb r i<=cb s i
 |0,r,s,h=>h
 |i+1,r,s,h=>sD i (add_le_add h (Nat.div_le_div_right (mul_le_mul h h)))
variable {u:Nat}
theorem quarter{l r:Nat}(h:u+l<=r):u*l<=r*r/4:=by
 rw[Nat.le_div_iff_mul_le (by decide)];have h1:(u+l)*(u+l)<=r*r:=mul_le_mul h h;refine le_trans ?_ h1;rcases Nat.le_total u l with c|c
 ·obtain⟨d,rfl⟩:=Nat.exists_eq_add_of_le c;grind
 ·obtain⟨d,rfl⟩:=Nat.exists_eq_add_of_le c;grind
theorem Ly(p q:Row->Bool)(hd:∀r,p r=true->q r=false):∀l:List Row,(l.filter p).length+(l.filter q).length<=l.length
 |[]=>le_refl _
 |r::l=>by
  have ih:=Ly p q hd l;rw[filter_cons,filter_cons,length_cons];by_cases c:p r=true
  ·rw[if_pos c,hd r c,if_neg Bool.false_ne_true,length_cons];omega
  ·rw[if_neg c];split
   ·rw[length_cons];omega
   ·omega
theorem zk(rows:List Row)(j:Nat):rows.length+(rows.filter λr=>decide (0<ent r j)).length*(rows.filter λr=>decide (ent r j<0)).length<=rows.length+rows.length*rows.length/4:=
 Nat.add_le_add_left (quarter (Ly _ _ (λr h=>by
  have:=of_decide_eq_true h;exact decide_eq_false (by omega)) rows)) _
theorem oF(ks:List Row)(r:Row):(ins ks r).length<=ks.length+1:=by
 unfold ins;split
 ·omega
 ·rw[length_append];exact le_refl _
theorem uV:∀(M l:List Row),(M.foldl ins l).length<=l.length+M.length
 |[],l=>le_refl _
 |r::M,l=>by
  rw[foldl_cons,length_cons];have:=uV M (ins l r);have:=oF l r;omega
theorem Aj{α β:Type}(f:α->List β)(c:Nat):∀l:List α,(∀x∈l,(f x).length<=c)->(l.flatMap f).length<=l.length*c
 |[],_=>by simp
 |x::l,h=>by
  rw[List.flatMap_cons,length_append,length_cons,succ_mul];have:=Aj f c l λy hy=>h y (mem_cons_of_mem _ hy);have:=h x mem_cons_self;omega
theorem DZ(rows:List Row)(j most:Nat)(aE:List Nat):(paired j aE most rows).length<=rows.length+rows.length*rows.length/4:=by
 have h1:=uV (rows.filter (λr=>decide (ent r j=0))++pairsOf j aE most rows) [];have h2:=zk rows j;have h3:(pairsOf j aE most rows).length<=(rows.filter λr=>decide (0<ent r j)).length*(rows.filter λr=>decide (ent r j<0)).length:=by
  unfold pairsOf;refine Aj _ _ _ λx _=>?_;rw[length_map];exact length_filter_le _ _
 have h4:=length_filter_le (λr=>decide (ent r j=0)) rows;rw[length_append]at h1;unfold paired;simp only[length_nil]at h1;omega
theorem J9(rows:List Row)(j most:Nat)(aE:List Nat):(d8 aE j most rows).length<=rows.length+rows.length*rows.length/4:=by
 unfold d8;split
 ·exact DZ _ _ _ _
 ·rw[length_map];exact le_trans (length_filter_le _ _) (le_add_right _ _)
abbrev Nx:=List Row×Nat×List (List Row)
def dG (aE:List Nat) (s:Nx) (j:Nat):Nx:=(d8 aE j s.2.1 s.1,iW j s.2.1 s.1,s.2.2++[s.1])
theorem yK(aE:List Nat):∀(m j most:Nat) (rows:List Row) (acc:List (List Row)),(((range' j m).foldl (dG aE) (rows,most,acc)).2.2++[((range' j m).foldl (dG aE) (rows,most,acc)).1])=acc++lX aE m j most rows
 |0,j,most,rows,acc=>rfl
 |m+1,j,most,rows,acc=>by
  rw[List.range'_succ,foldl_cons];show(((range' (j+1) m).foldl (dG aE) (d8 aE j most rows,iW j most rows,acc++[rows])).2.2++[((range' (j+1) m).foldl (dG aE) (d8 aE j most rows,iW j most rows,acc++[rows])).1])=_;rw[yK aE m (j+1),append_assoc];rfl
end
end FM
namespace L3
noncomputable section
open PySem PySem.Spec PyProof.Rows L2
open PySem.W (Dat kqdOk)
variable {gb:aw->Option Fl} {Γ:aw}
theorem Hh{gt:Dat->Option cN}{rg:List Dat->Option (List Dat)}{fs:ar->Option (List Dat)}{β τ:Type}(enc:β->Dat)(St:τ->aw->Prop)(Q:τ->List β->Prop)(dG:τ->β->τ){l:List β}{s:τ}{as:List Dat}(hf:fs (c7 Γ)=some as)(hr:rg as=some (l.map enc))(hq:Q s l)(hs:St s Γ)(step:∀s p l Γ,Q s (p::l)->St s Γ->∃as,gt (enc p)=some as/\∃af,gb (setG Γ as)=some (.nx af)/\St (dG s p) af/\Q (dG s p) l):∃af,DG rg gt gb fs Γ=some (.nx af)/\St (l.foldl dG s) af:=by
 obtain⟨af,e,h⟩:=pG (gt:=gt) (gb:=gb) enc St Q dG step l s Γ hq hs;refine⟨af,?_,h⟩;unfold DG;rw[hf];show(rg as).bind _=_;rw[hr];exact e
open PySem PySem.Spec PyProof.Rows L2
open PySem.W (Dat kqdOk)
variable {fi:ar->Option (List Dat)}
theorem JA{gt:Dat->Option cN}{β τ:Type}(enc:β->Dat)(St:τ->aw->Prop)(dG:τ->β->τ)(bad:β->Prop){r:Dat}{l:List β}{s:τ}(hf:fi (bj Γ)=some (l.map enc))(hs:St s Γ)(good:∀s p Γ,¬bad p->St s Γ->∃as,gt (enc p)=some as/\∃af,gb (setG Γ as)=some (.nx af)/\St (dG s p) af)(bd:∀s p Γ,bad p->St s Γ->∃as,gt (enc p)=some as/\gb (setG Γ as)=some (.rt r)):
  (∃af,lW gt gb fi Γ=some (.nx af)/\St (l.foldl dG s) af/\∀p∈l,¬bad p)\/(lW gt gb fi Γ=some (.rt r)/\∃p∈l,bad p):=by
 have e:lW gt gb fi Γ=forL gt gb (l.map enc) Γ:=by unfold lW;rw[hf];rfl
 rw[e];clear e hf;induction l generalizing s Γ with
 |nil=>exact .inl ⟨Γ,rfl,hs,λp hp=>by simp at hp⟩
 |cons p l ih=>
  rw[map_cons];by_cases c:bad p
  ·obtain⟨as,e1,e2⟩:=bd s p Γ c hs;refine .inr ⟨?_,p,mem_cons_self,c⟩;show(gt (enc p)).bind _=_;rw[e1];show(gb (setG Γ as)).bind _=_;rw[e2];rfl
  ·obtain⟨as,e1,Γ1,e2,h1⟩:=good s p Γ c hs;have e3:forL gt gb (enc p::l.map enc) Γ=forL gt gb (l.map enc) Γ1:=by
    show(gt (enc p)).bind _=_;rw[e1];show(gb (setG Γ as)).bind _=_;rw[e2];rfl
   rw[e3];rcases ih h1 with⟨af,a,b,d⟩|⟨a,q,hq,b⟩
   ·exact .inl ⟨af,a,b,λq hq=>(mem_cons.mp hq).elim (λz=>by rw[z];exact c) (d q)⟩
   ·exact .inr ⟨a,q,mem_cons_of_mem _ hq,b⟩
variable {g1 g2:aw->Option Fl} {I:aw->Prop}
theorem Mc{fl:Fl}{r:Dat}{C B:Prop}(h:(∃af,g1 Γ=some (.nx af)/\I af/\C)\/(g1 Γ=some (.rt r)/\B))(k1:∀af,C->I af->g2 af=some fl)(k2:B->fl=.rt r):du g1 g2 Γ=some fl:=by
 rcases h with⟨af,e,h,c⟩|⟨e,b⟩
 ·unfold du;rw[e];exact k1 af c h
 ·unfold du;rw[e,k2 b];rfl
variable {gt ft:ar->Option Bool} {ρ:ar} {a b:Bool}
theorem sj(hf:ft ρ=some a)(hg:gt ρ=some b):jC ft gt ρ=some (a&&b):=by
 unfold jC;rw[hf];cases a
 ·rfl
 ·exact hg
theorem Hj(hf:ft ρ=some a)(hg:gt ρ=some b):jo ft gt ρ=some (a || b):=by
 unfold jo;rw[hf];cases a
 ·exact hg
 ·rfl
variable {f g:ar->Option Dat}
theorem An(hf:f ρ=some (.bool a))(hg:g ρ=some (.bool b)):o9 f g ρ=some (.bool (a&&b)):=by
 unfold o9;rw[hf];cases a
 ·rfl
 ·exact hg
theorem LA(hf:f ρ=some (.bool a))(hg:g ρ=some (.bool b)):sR f g ρ=some (.bool (a || b)):=by
 unfold sR;rw[hf];cases a
 ·exact hg
 ·rfl
end
end L3
namespace FM
noncomputable section
theorem td{f:Nat->Rat}:∀m:Nat,sm (m+1) f=f 0+sm m (λi=>f (i+1))
 |0=>by show(0:Rat)+f 0=f 0+0;grind
 |m+1=>by
  show sm (m+1) f+f (m+1)=f 0+(sm m (λi=>f (i+1))+f (m+1));rw[td m];grind
theorem Cb(Ls:List (List Row)):∀(m:Nat) (x:List Rat) (c:Nat),m<=c->(ee Ls m x).getD c 0=x.getD c 0
 |0,x,c,_=>rfl
 |m+1,x,c,h=>by
  show(ee Ls m (x.set m _)).getD c 0=_;rw[Cb Ls m _ c (by omega)];rw[getD_eq_getElem?_getD,getElem?_set_ne (by omega),<- getD_eq_getElem?_getD]
end
end FM
namespace L3
noncomputable section
open PySem PySem.Spec PyProof.Rows L2
open PySem.W (Dat kqdOk)
theorem CN{gt:Dat->Option cN}{gb:aw->Option Fl}(I:aw->Prop):∀{ds:List Dat} {Γ:aw},I Γ->(∀d∈ds,∀Γ,I Γ->∃as af,gt d=some as/\gb (setG Γ as)=some (.nx af)/\I af)->∃af,forL gt gb ds Γ=some (.nx af)/\I af
 |[],Γ,h,_=>⟨Γ,rfl,h⟩
 |d::ds,Γ,h,st=>by
  obtain⟨as,Γ1,e1,e2,h1⟩:=st d mem_cons_self Γ h;obtain⟨iP,e3,h2⟩:=CN I (ds:=ds) h1 λd hd=>st d (mem_cons_of_mem _ hd);refine⟨iP,?_,h2⟩;show(gt d).bind _=_;rw[e1];show(gb (setG Γ as)).bind _=_;rw[e2];exact e3
variable {gt:Dat->Option cN} {gb:aw->Option Fl} {ds:List Dat} {Γ:aw}
theorem Qa{f:ar->Option Dat}(I:aw->Prop){d:Dat}(hf:f (bj Γ)=some d)(hi:cI d=some ds)(h0:I Γ)(st:∀d∈ds,∀Γ,I Γ->∃as af,gt d=some as/\gb (setG Γ as)=some (.nx af)/\I af):∃af,nX gt gb f Γ=some (.nx af)/\I af:=by
 obtain⟨af,e,h⟩:=CN I (gt:=gt) (gb:=gb) h0 st;refine⟨af,?_,h⟩;unfold nX;rw[hf];show(cI d).bind _=_;rw[hi];exact e
end
end L3
namespace FM
noncomputable section
variable {ws:List Rat} {β:Rat}
theorem nY{os:List Ol}{s:Bool}{p:List Rat}{x:List Rat}(hl:∀o∈os,o.2.1.length=p.length)(hr:Right os ws s p β)(hx:∀o∈os,bE o x):rel (if s=true then .lt else .le) (aB p x) β:=by
 obtain⟨ha,hr⟩:=hr;have at':∀i,i<os.length->os.getD i (.eq,[],0)∈os:=λi hi=>by
  rw[getD_eq_getElem?_getD,getElem?_eq_getElem hi];exact getElem_mem _
 have hw:∀i,i<os.length->aB (os.getD i (.eq,[],0)).2.1 x=sm p.length λc=>iI os i c*x.getD c 0:=λi hi=>by
  unfold aB;rw[hl _ (at' i hi)];rfl
 have le:∀i,i<os.length->ws.getD i 0*aB (os.getD i (.eq,[],0)).2.1 x<=ws.getD i 0*k8 os i:=λi hi=>by
  have hh:=hx _ (at' i hi);unfold bE at hh;have nn:=ha.nn i hi;unfold knd at nn;unfold k8;cases hk:(os.getD i (.eq,[],0)).1 with
  |eq=>rw[hk]at hh;rw[show aB (os.getD i (.eq,[],0)).2.1 x=_ from hh];grind
  |le=>
   rw[hk]at hh;exact Rat.mul_le_mul_of_nonneg_left hh (nn (by rw[hk];simp))
  |lt=>
   rw[hk]at hh;exact Rat.mul_le_mul_of_nonneg_left (le_of_lt hh) (nn (by rw[hk];simp))
 have Bz:sm os.length (λi=>ws.getD i 0*aB (os.getD i (.eq,[],0)).2.1 x)=sm p.length λc=>fZ os ws c*x.getD c 0:=by
  rw[aQ (g:=λi=>sm p.length λc=>ws.getD i 0*iI os i c*x.getD c 0) (λi hi=>by
   rw[hw i hi,<- bD];exact aQ λc _=>by grind),vJ]
  refine aQ λc _=>?_;unfold fZ;rw[aQ (g:=λi=>x.getD c 0*(ws.getD i 0*iI os i c)) (λi _=>by grind),bD];grind
 have hle:sm p.length (λc=>fZ os ws c*x.getD c 0)<=jF os ws:=by rw[<- Bz];exact DF le
 have eV:t9 os ws->sm p.length (λc=>fZ os ws c*x.getD c 0)<jF os ws:=λaP=>by
  obtain⟨i,hi,hk,hp⟩:=aP;rw[<- Bz];refine Kv le ⟨i,hi,?_⟩;have hh:=hx _ (at' i hi);unfold bE at hh;unfold knd at hk;rw[hk]at hh;exact Rat.mul_lt_mul_of_pos_left hh hp
 rcases hr with⟨h1,h2⟩|⟨h1,h2⟩
 ·have e:sm p.length (λc=>fZ os ws c*x.getD c 0)=aB p x:=aQ λc hc=>by rw[h1 c hc]
  rw[e]at hle eV;rcases h2 with h2|⟨h2,h3⟩
  ·cases s with
   |true=>show aB p x<β;grind
   |false=>show aB p x<=β;grind
  ·cases s with
   |true=>
    rcases h3 with h3|h3
    ·cases h3
    ·have:=eV h3;show aB p x<β;grind
   |false=>show aB p x<=β;grind
 ·exfalso;have e:sm p.length (λc=>fZ os ws c*x.getD c 0)=0:=gh λc hc=>by rw[h1 c hc];grind
  rw[e]at hle eV;rcases h2 with h2|⟨h2,h3⟩
  ·grind
  ·have:=eV h3;grind
end
end FM
namespace UQ
noncomputable section
open PySem PySem.Spec PyProof.Rows L2 L3
open PySem.W (Dat kqdOk)
local macro_rules | `(~~~$x) => `(some (L3.Slot.a7 $x))
local macro_rules | `(tactic| simp! [$xs,*]) => `(tactic| simp only [jG, cY, du, iA, mG, nW, kg, qt, bS, lK, L3.f2, L3.f1, aN, fC, bh, cG, kx, o8, kK, i7, vc, o9, sR, rf, jC, jo, mf, bj, c7, lF, nS, o6, List.map_cons, List.map_nil, List.getElem?_cons_zero, List.getElem?_cons_succ, Option.join_some, Option.bind_some, Option.map_some, List.set_cons_zero, List.set_cons_succ, List.length_cons, List.length_nil, List.cons_append, List.nil_append, List.replicate, Nat.add_sub_cancel, Nat.zero_add, Nat.reduceAdd, Nat.reduceSub, if_true, if_false, Bool.false_eq_true, Bool.not_true, Bool.not_false, decide_true, decide_false, reduceIte, reduceCtorEq, Nat.reduceEqDiff, Nat.reduceLeDiff, vM, mF, fR, tm, nJ, gd, bA, fL, ky, cI, bV, aName, jE, dm, List.foldl_cons, List.foldl_nil, Option.map_none, Option.bind_none, List.isEmpty, List.reverse_cons, List.reverse_nil, and_self, and_true, true_and, Option.some.injEq, jQ, fF, lM, setG, List.append_nil, iL, L3.h2, yk, mT, jf, Jv, Ei, pF, Lp, pE, runM, startM, uw, DI, oX, tj, yH, JC, lW, xA, qP, Ea, dF, hL, FC, gO, List.length_set, List.append_eq, $xs,*])
local macro_rules | `(tactic| dsimp! [$xs,*]) => `(tactic| simp only [jG, cY, du, iA, mG, nW, kg, qt, bS, lK, L3.f2, L3.f1, aN, fC, bh, cG, kx, o8, kK, i7, vc, o9, sR, rf, jC, jo, mf, bj, c7, lF, nS, o6, List.map_cons, List.map_nil, List.getElem?_cons_zero, List.getElem?_cons_succ, Option.join_some, Option.bind_some, Option.map_some, List.set_cons_zero, List.set_cons_succ, List.length_cons, List.length_nil, List.cons_append, List.nil_append, List.replicate, Nat.add_sub_cancel, Nat.zero_add, Nat.reduceAdd, Nat.reduceSub, if_true, if_false, Bool.false_eq_true, Bool.not_true, Bool.not_false, decide_true, decide_false, reduceIte, reduceCtorEq, Nat.reduceEqDiff, Nat.reduceLeDiff, vM, mF, fR, tm, nJ, gd, fL, ky, cI, bV, aName, jE, dm, List.foldl_cons, List.foldl_nil, Option.map_none, Option.bind_none, List.isEmpty, List.reverse_cons, List.reverse_nil, and_self, and_true, true_and, Option.some.injEq, jQ, fF, lM, setG, List.append_nil, iL, L3.h2, yk, mT, jf, Jv, Ei, pF, Lp, pE, runM, startM, uw, DI, oX, tj, yH, JC, lW, xA, qP, Ea, dF, hL, FC, gO, List.length_set, List.append_eq, $xs,*])
local macro_rules | `(tactic| simp!) => `(tactic| simp only [cY, List.map_cons, List.map_nil, List.length_cons, List.length_nil, List.cons_append, List.nil_append, List.replicate])
local macro_rules | `(tactic| dsimp!) => `(tactic| simp only [setG, List.foldl_cons, List.foldl_nil, List.set_cons_succ, List.set_cons_zero])
def top (i:Nat):Stmt:=PySem.Challenge.pw_stepjudge_k21_lines_that_hold_nowhere.main.body.getD i (.Pass ⟨0,0,0,0⟩)
structure TX (P:Program) (K:Fg) (mg:Str->Option Value):Prop where
 seer:wI P K mg
 abs:mg "abs"=none
 len:mg "len"=none
 int:mg "int"=none
 isinstance:mg "isinstance"=none
 tuple:mg "tuple"=none
 bool:mg "bool"=none
 range:mg "range"=none
 zip:mg "zip"=none
 list:mg "list"=none
 str:mg "str"=none
 all:mg "all"=none
 enumerate:mg "enumerate"=none
 max:mg "max"=none
theorem sz{n:Nat}(h:n<=1000):n<=sizeLine:=Nat.le_of_lt (xc h)
def pR:List Dat->Option Dat
 |[.int a,.int b]=>if 0<=a/\0<=b then some (.int (gcd a b))else none
 |_=>none
def SA:aw->Nat
 |_::some (.a7 (.int b))::_=>b.natAbs+1
 |_=>0
abbrev Ur:ar->Option Bool:=bS (f2 gK (aN 1) (fC (Dat.int 0)))
abbrev Us:aw->Option Fl:=du (iA 2 (f2 vW (aN 0) (aN 1))) (du (iA 0 (aN 1)) (iA 1 (aN 2)))
theorem HN(x z:Option Slot)(b:Int)(r:aw):Ur (c7 (x::some (.a7 (.int b))::r))=some (!decide (b=0)):=by
 show(gK (.int b) (.int 0)).bind lF=_;rw[fm];rfl
theorem Dk:∀(n:Nat) (a b:Int) (r:Option Slot),0<=a->0<=b->b.natAbs<n->∃r',fR Ur Us n [~~~.int a,~~~.int b,r]=some (.nx [~~~.int (gcd a b),~~~.int 0,r'])
 |0,_,_,_,_,_,h=>by omega
 |n+1,a,b,r,ha,hb,h=>by
  by_cases e:b=0
  ·subst e;refine⟨r,?_⟩;rw[yw (by rw[HN _ none];rfl)];congr
   rw[Int.gcd_zero];omega
  ·have xB:0<=a.fmod b:=Int.fmod_nonneg_of_pos a (by omega);have hm1:a.fmod b<b:=Int.fmod_lt_of_pos a (by omega);have hbody:Us [~~~.int a,~~~.int b,r]=some (.nx [~~~.int b,~~~.int (a.fmod b),~~~.int (a.fmod b)]):=by
    refine(aA (kP (d:=.int (a.fmod b)) (i5 e))).trans ?_;refine(aA (kP (d:=.int b) rfl)).trans ?_;exact kP (d:=.int (a.fmod b)) rfl
   obtain⟨r',q⟩:=Dk n b (a.fmod b) _ hb xB (by omega);refine⟨r',?_⟩;rw[yv (by rw[HN _ none,decide_eq_false e];rfl) hbody,q,Fr.Ad a b (by omega)]
variable {P:Program} {w:World} {base:Heap} {K:Fg} {mg:Str->Option Value}
theorem Wh(T:TX P K mg)(U:FnAt K mg "common_divisor" (top 1) ["a","b"]):Dn P w K mg base 41 "common_divisor" ["a","b"] 2 pR:=by
 obtain⟨f,fd,U,hm,hB⟩:=U.ex;have nd:(["a","b","rest"]:List Str).Nodup:=by decide +kernel
 refine ic U hm hB (N:=["a","b","rest"]) ⟨rfl,rfl,rfl,by decide +kernel,rfl,by decide +kernel,by decide +kernel⟩ rfl (λbF A outer s H E hr=>
  (ae (uF SA PassesOwn.never (dg hr (a5 1) a8) (ae (aC 2 nd (j9 (a5 0) (a5 1)))
  (ae (aC 0 nd (a5 1))
  (ag (aC 1 nd (a5 2))))))
  (ag (ax (a5 0))))) ?_
 intro ds d hl hF;unfold pR at hF;split at hF
 ·rename_i a b;split at hF
  ·rename_i h;cases hF;obtain⟨r',q⟩:=Dk (b.natAbs+1) a b none h.1 h.2 (by omega);refine bX ?_;refine(aA q).trans ?_;exact BP rfl
  ·cases hF
 ·cases hF
def j7:List Dat->Option Dat
 |[.int n,.int d]=>if d≠0/\d.natAbs.log2<9000000 then some (.tuple [.int (Fr.num n d),.int (Fr.den n d)])else none
 |_=>none
theorem MS{a b:Nat}(h:a<=b):a.log2<=b.log2:=by
 by_cases ha:a=0
 ·subst ha;exact zero_le _
 ·rw[Nat.le_log2 (by omega)];exact le_trans (Nat.log2_self_le ha) h
theorem Qx(T:TX P K mg)(gF:Dn P w K mg base 41 "common_divisor" ["a","b"] 2 pR)(U:FnAt K mg "make" (top 2) ["n","d"]):Dn P w K mg base 42 "make" ["n","d"] 2 j7:=by
 obtain⟨f,fd,U,hm,hB⟩:=U.ex;have nd:(["n","d","divisor"]:List Str).Nodup:=by decide +kernel
 refine ic U hm hB (N:=["n","d","divisor"]) ⟨rfl,rfl,rfl,by decide +kernel,rfl,by decide +kernel,by decide +kernel⟩ rfl (λbF A outer s H E hr=>
  (ae (aC 2 nd (ay gF hr (a6 (mm T.abs (a6 (a5 0) a9)) (a6 (mm T.abs (a6 (a5 1) a9)) a9))))
  (ae (bc (ox (a5 1) a8) (ag (aC 2 nd (dw (a5 2)))) aV)
  (ag (ax (aX (k:=0) (a6 (gu T.seer hr (a5 0) (a5 2)) (a6 (gu T.seer hr (a5 1) (a5 2)) a9)))))))) ?_
 intro ds d' hl hF;unfold j7 at hF;split at hF
 ·rename_i n d;split at hF
  ·rename_i h;cases hF;have e1:pR [.int (n.natAbs:Int),.int (d.natAbs:Int)]=some (.int (gcd n d)):=by
    have z:pR [.int (n.natAbs:Int),.int (d.natAbs:Int)]=if 0<=(n.natAbs:Int)/\0<=(d.natAbs:Int)then some (.int (gcd (n.natAbs:Int) (d.natAbs:Int)))else none:=rfl;rw[z,if_pos ⟨Int.natCast_nonneg _,Int.natCast_nonneg _⟩];simp[gcd]
   have hb:(Fr.dv n d).natAbs.log2<9000000:=by
    rw[Fr.vf];refine lt_of_le_of_lt (MS ?_) h.2;have:=gcd_dvd_right n d;have:=Int.natAbs_dvd_natAbs.mpr this;exact le_of_dvd (by omega) (by simpa using this)
   have q1:si (.int n) (.int (Fr.dv n d))=some (.int (Fr.num n d)):=je (Fr.LD h.1);have q2:si (.int d) (.int (Fr.dv n d))=some (.int (Fr.den n d)):=je (Fr.LD h.1);have z2:2<=sizeLine:=sz (by decide);by_cases hd:d<0
   ·have e2: -(gcd n d:Int)=Fr.dv n d:=by unfold Fr.dv;exact(if_pos hd).symm
    simp only[jG,cY,du,iA,mG,nW,kg,qt,bS,lK,f2,f1,aN,fC,bh,cG,kx,o8,kK,i7,vc,o9,sR,rf,jC,jo,mf,bj,c7,lF,nS,o6,map_cons,map_nil,getElem?_cons_zero,getElem?_cons_succ,Option.join_some,Option.bind_some,map_some,set_cons_zero,set_cons_succ,length_cons,length_nil,cons_append,nil_append,List.replicate,add_sub_cancel,zero_add,reduceAdd,reduceSub,if_true,if_false,false_eq_true,Bool.not_true,Bool.not_false,decide_true,decide_false,reduceIte,reduceCtorEq,reduceEqDiff,reduceLeDiff,jP,e1,dh,hd,e2,q1,q2,z2]
   ·have e2:(gcd n d:Int)=Fr.dv n d:=by unfold Fr.dv;exact(if_neg hd).symm
    simp only[jG,cY,du,iA,mG,nW,kg,qt,bS,lK,f2,f1,aN,fC,bh,cG,kx,o8,kK,i7,vc,o9,sR,rf,jC,jo,mf,bj,c7,lF,nS,o6,map_cons,map_nil,getElem?_cons_zero,getElem?_cons_succ,Option.join_some,Option.bind_some,map_some,set_cons_zero,set_cons_succ,length_cons,length_nil,cons_append,nil_append,List.replicate,add_sub_cancel,zero_add,reduceAdd,reduceSub,if_true,if_false,false_eq_true,Bool.not_true,Bool.not_false,decide_true,decide_false,reduceIte,reduceCtorEq,reduceEqDiff,reduceLeDiff,jP,e1,dh,hd,e2,q1,q2,z2]
  ·cases hF
 ·cases hF
variable {k:Nat}
theorem log2_small{n:Nat}(hk:0<k)(h:n<2^k):n.log2<k:=by
 by_cases e:n=0
 ·subst e;simpa using hk
 ·exact(Nat.log2_lt e).mpr h
theorem lE(a b:Dat):gD [a,b] 0=some a:=rfl
theorem lD(a b:Dat):gD [a,b] 1=some b:=rfl
variable {b:Int}
theorem mx(a:Int)(h:0<b):0<=a.fmod b/\a.fmod b<b:=⟨Int.fmod_nonneg_of_pos a h,Int.fmod_lt_of_pos a h⟩
theorem mulR(a:Int)(h1: -(2^64)<b)(h2:b<2^64):jK (.int a) (.int b)=some (.int (a*b)):=pf (.of_right (intBits_le_64 h1 h2))
variable {a:Int}
theorem mulL(b:Int)(h1: -(2^64)<a)(h2:a<2^64):jK (.int a) (.int b)=some (.int (a*b)):=pf (.of_left (intBits_le_64 h1 h2))
theorem KH:DX (.int 10) (.int 18)=some (.int (10^18)):=je (by unfold B5;decide)
theorem S3:DX (.int 10) (.int 30)=some (.int (10^30)):=je (by unfold B5;decide)
theorem JG{d:Dat}(h:kqdOk 9 d=true)(h1:∀b,d≠.bool b)(h2:∀b,d≠.str b):eqB d d=some true:=by
 unfold eqB;split
 ·exact absurd rfl (h1 _)
 ·exact absurd rfl (h2 _)
 ·rw[if_pos ⟨h,h⟩,lB rfl]
theorem bits_le{x:Int}(hk:0<k)(h:x.natAbs<2^k):Builtin.Int.intBits x<=k:=by
 have:=log2_small hk h;unfold Builtin.Int.intBits;split
 ·exact zero_le _
 ·omega
theorem vV(x:Str):gK (.str x) (.str x)=some (.bool false):=by
 show some (Dat.bool (!_))=_;simp
theorem MZ{x y:Str}(h:x=y):cM (.str x) (.str y)=some (.bool true):=by
 subst h;show some (Dat.bool _)=_;simp
theorem Hn{x y:Str}(h:x≠y):cM (.str x) (.str y)=some (.bool false):=by
 show some (Dat.bool _)=_;simp[h]
structure Md (x:Int):Prop where
 lt:x.natAbs<2^4000000
theorem pw(a b:Nat):2^a*2^b=2^(a+b):=(pow_add 2 a b).symm
theorem Md.mul(ha:Md a)(hb:Md b):(a*b).natAbs<2^8000000:=by
 rw[natAbs_mul];have h:=Nat.mul_lt_mul'' ha.lt hb.lt;rw[pw]at h;exact h
theorem mulM(ha:Md a)(hb:Md b):jK (.int a) (.int b)=some (.int (a*b)):=
 pf (.of_le (bits_le (k:=4000000) (by decide) ha.lt) (bits_le (k:=4000000) (by decide) hb.lt) (by decide))
theorem E5(ha:a.natAbs<2^9000000)(hb:b.natAbs<2^9000000):jK (.int a) (.int b)=some (.int (a*b)):=
 pf (.of_le (bits_le (k:=9000000) (by decide) ha) (bits_le (k:=9000000) (by decide) hb) (by decide))
variable {n:Int}
theorem oD{d:Int}(h:d≠0)(hb:d.natAbs<2^8000000):j7 [.int n,.int d]=some (.tuple [.int (Fr.num n d),.int (Fr.den n d)]):=
 if_pos ⟨h,lt_trans (log2_small (k:=8000000) (by decide) hb) (by decide)⟩
structure Gd (p q:Int):Prop where
 pos:0<q
 AB:gcd p q=1
 mp:Md p
 mq:Md q
abbrev fr (p q:Int):Dat:=.tuple [.int p,.int q]
def two (ds:List Dat):Option (Int×Int×Int×Int):=match ds with
 |[.tuple [.int p,.int q],.tuple [.int r,.int s]]=>some (p,q,r,s)
 |_=>none
def lb (g:Int->Int->Int->Int->Option Dat):List Dat->Option Dat:=open Classical in λds=>match ds with
 |[.tuple [.int p,.int q],.tuple [.int r,.int s]]=>if Gd p q/\Gd r s then g p q r s else none
 |_=>none
variable {p:Int}
theorem n9{g:Int->Int->Int->Int->Option Dat}{q r s:Int}(h:Gd p q)(h':Gd r s):lb g [fr p q,fr r s]=g p q r s:=by
 unfold lb;exact if_pos ⟨h,h'⟩
abbrev mk (n d:Int):Dat:=fr (Fr.num n d) (Fr.den n d)
abbrev j6:=lb λp q r s=>some (mk (p*s+r*q) (q*s))
abbrev fz:=lb λp q r s=>some (mk (p*s-r*q) (q*s))
abbrev ka:=lb λp q r s=>some (mk (p*r) (q*s))
abbrev oK:=lb λp q r s=>if r≠0 then some (mk (p*s) (q*r))else none
abbrev fQ:=lb λp q r s=>some (.bool (decide (p*s<r*q)))
variable {ds:List Dat}
theorem fN{g:Int->Int->Int->Int->Option Dat}{d:Dat}(h:lb g ds=some d):∃p q r s,ds=[fr p q,fr r s]/\Gd p q/\Gd r s/\g p q r s=some d:=by
 unfold lb at h;split at h
 ·split at h
  ·rename_i hc;exact⟨_,_,_,_,rfl,hc.1,hc.2,h⟩
  ·cases h
 ·cases h
theorem Qu(T:TX P K mg)(lh:Dn P w K mg base 42 "make" ["n","d"] 2 j7)(U:FnAt K mg "plus" (top 3) ["a","b"]):Dn P w K mg base 43 "plus" ["a","b"] 2 j6:=by
 obtain⟨f,fd,U,hm,hB⟩:=U.ex;have nd:(["a","b"]:List Str).Nodup:=by decide +kernel
 refine ic U hm hB (N:=["a","b"]) ⟨rfl,rfl,rfl,by decide +kernel,rfl,by decide +kernel,by decide +kernel⟩ rfl (λbF A outer s H E hr=>
  (ag (ax (ay lh hr (a6 (eI (bN (aj (a5 0) a8) (aj (a5 1) a8)) (bN (aj (a5 1) a8) (aj (a5 0) a8))) (a6 (bN (aj (a5 0) a8) (aj (a5 1) a8)) a9)))))) ?_
 intro ds d hl hF;obtain⟨p,q,r,s,rfl,g1,g2,e⟩:=fN hF;have z:=mul_ne_zero (ne_of_gt g1.pos) (ne_of_gt g2.pos);cases e;simp only[jG,cY,du,iA,mG,nW,kg,qt,bS,lK,f2,f1,aN,fC,bh,cG,kx,o8,kK,i7,vc,o9,sR,rf,jC,jo,mf,bj,c7,lF,nS,o6,map_cons,map_nil,getElem?_cons_zero,getElem?_cons_succ,Option.join_some,Option.bind_some,map_some,set_cons_zero,set_cons_succ,length_cons,length_nil,cons_append,nil_append,List.replicate,add_sub_cancel,zero_add,reduceAdd,reduceSub,if_true,if_false,false_eq_true,Bool.not_true,Bool.not_false,decide_true,decide_false,reduceIte,reduceCtorEq,reduceEqDiff,reduceLeDiff,vM,mF,fR,tm,nJ,gd,bA,fL,ky,cI,bV,aName,jE,dm,foldl_cons,foldl_nil,map_none,bind_none,isEmpty,List.reverse_cons,List.reverse_nil,and_self,and_true,true_and,Option.some.injEq,jQ,fF,lM,setG,append_nil,fr,lE,lD,c9,fS,dh,mulM g1.mp g2.mq,mulM g2.mp g1.mq,mulM g1.mq g2.mq,mulM g1.mp g2.mp,mulM g1.mq g2.mp,oD z (g1.mq.mul g2.mq)]
theorem N7(T:TX P K mg)(lh:Dn P w K mg base 42 "make" ["n","d"] 2 j7)(U:FnAt K mg "times" (top 5) ["a","b"]):Dn P w K mg base 43 "times" ["a","b"] 2 ka:=by
 obtain⟨f,fd,U,hm,hB⟩:=U.ex;have nd:(["a","b"]:List Str).Nodup:=by decide +kernel
 refine ic U hm hB (N:=["a","b"]) ⟨rfl,rfl,rfl,by decide +kernel,rfl,by decide +kernel,by decide +kernel⟩ rfl (λbF A outer s H E hr=>
  (ag (ax (ay lh hr (a6 (bN (aj (a5 0) a8) (aj (a5 1) a8)) (a6 (bN (aj (a5 0) a8) (aj (a5 1) a8)) a9)))))) ?_
 intro ds d hl hF;obtain⟨p,q,r,s,rfl,g1,g2,e⟩:=fN hF;have z:=mul_ne_zero (ne_of_gt g1.pos) (ne_of_gt g2.pos);cases e;simp only[jG,cY,du,iA,mG,nW,kg,qt,bS,lK,f2,f1,aN,fC,bh,cG,kx,o8,kK,i7,vc,o9,sR,rf,jC,jo,mf,bj,c7,lF,nS,o6,map_cons,map_nil,getElem?_cons_zero,getElem?_cons_succ,Option.join_some,Option.bind_some,map_some,set_cons_zero,set_cons_succ,length_cons,length_nil,cons_append,nil_append,List.replicate,add_sub_cancel,zero_add,reduceAdd,reduceSub,if_true,if_false,false_eq_true,Bool.not_true,Bool.not_false,decide_true,decide_false,reduceIte,reduceCtorEq,reduceEqDiff,reduceLeDiff,vM,mF,fR,tm,nJ,gd,bA,fL,ky,cI,bV,aName,jE,dm,foldl_cons,foldl_nil,map_none,bind_none,isEmpty,List.reverse_cons,List.reverse_nil,and_self,and_true,true_and,Option.some.injEq,jQ,fF,lM,setG,append_nil,fr,lE,lD,c9,fS,dh,mulM g1.mp g2.mq,mulM g2.mp g1.mq,mulM g1.mq g2.mq,mulM g1.mp g2.mp,mulM g1.mq g2.mp,oD z (g1.mq.mul g2.mq)]
theorem Nr(T:TX P K mg)(lh:Dn P w K mg base 42 "make" ["n","d"] 2 j7)(U:FnAt K mg "below" (top 7) ["a","b"]):Dn P w K mg base 43 "below" ["a","b"] 2 fQ:=by
 obtain⟨f,fd,U,hm,hB⟩:=U.ex;have nd:(["a","b"]:List Str).Nodup:=by decide +kernel
 refine ic U hm hB (N:=["a","b"]) ⟨rfl,rfl,rfl,by decide +kernel,rfl,by decide +kernel,by decide +kernel⟩ rfl (λbF A outer s H E hr=>
  (ag (ax (yU (bN (aj (a5 0) a8) (aj (a5 1) a8)) (bN (aj (a5 1) a8) (aj (a5 0) a8)))))) ?_
 intro ds d hl hF;obtain⟨p,q,r,s,rfl,g1,g2,e⟩:=fN hF;have z:=mul_ne_zero (ne_of_gt g1.pos) (ne_of_gt g2.pos);cases e;simp only[jG,cY,du,iA,mG,nW,kg,qt,bS,lK,f2,f1,aN,fC,bh,cG,kx,o8,kK,i7,vc,o9,sR,rf,jC,jo,mf,bj,c7,lF,nS,o6,map_cons,map_nil,getElem?_cons_zero,getElem?_cons_succ,Option.join_some,Option.bind_some,map_some,set_cons_zero,set_cons_succ,length_cons,length_nil,cons_append,nil_append,List.replicate,add_sub_cancel,zero_add,reduceAdd,reduceSub,if_true,if_false,false_eq_true,Bool.not_true,Bool.not_false,decide_true,decide_false,reduceIte,reduceCtorEq,reduceEqDiff,reduceLeDiff,vM,mF,fR,tm,nJ,gd,bA,fL,ky,cI,bV,aName,jE,dm,foldl_cons,foldl_nil,map_none,bind_none,isEmpty,List.reverse_cons,List.reverse_nil,and_self,and_true,true_and,Option.some.injEq,jQ,fF,lM,setG,append_nil,fr,lE,lD,c9,fS,dh,mulM g1.mp g2.mq,mulM g2.mp g1.mq,mulM g1.mq g2.mq,mulM g1.mp g2.mp,mulM g1.mq g2.mp]
abbrev R:=Int×Int
abbrev rD (r:R):List Dat:=[.int r.1,.int r.2]
def dC (r:R):Prop:=0<=r.2/\r.2<2147483648
instance (r:R):Decidable (dC r):=inferInstanceAs (Decidable (_/\_))
def nq (b:Int):Int:=(b*48271+11).fmod 2147483647
def ke (b:Int):Int:=(nq b*nq b).fmod 2147483629
def tk (r:R) (m:Int):Int:=if 10^18<=r.1 then r.1.fmod m else(((ke r.2*69621).fmod 2147483587).fdiv 8).fmod m
def tr (r:R) (m:Int):R:=if 10^18<=r.1 then(r.1.fdiv m,r.2)else(r.1,nq r.2)
variable {m:Int}
theorem dH(r:R)(h:0<m):0<=tk r m/\tk r m<m:=by
 unfold tk;split
 ·exact mx _ h
 ·exact mx _ h
theorem F7(b:Int):0<=nq b/\nq b<2147483647:=mx _ (by decide)
theorem O5(b:Int):0<=ke b/\ke b<2147483629:=mx _ (by decide)
theorem dE{r:R}(h:dC r):dC (tr r m):=by
 unfold tr;split
 ·exact h
 ·have:=F7 r.2;exact⟨this.1,by show nq r.2<_;omega⟩
def ik:List Dat->List Dat->Option (Dat×List Dat)
 |[.int a,.int b],[.int m]=>if dC (a,b)/\0<m/\m<2^200 then some (.int (tk (a,b) m),rD (tr (a,b) m))else none
 |_,_=>none
theorem cx{r:R}(h:dC r)(h1:0<m)(h2:m<2^200):ik [.int r.1,.int r.2] [.int m]=some (.int (tk r m),[.int (tr r m).1,.int (tr r m).2]):=if_pos ⟨h,h1,h2⟩
theorem P6(h1:0<m)(h2:m<2^200):m.natAbs.log2<9000000:=lt_trans (log2_small (k:=200) (by decide) (by omega)) (by decide)
theorem Qt(T:TX P K mg)(U:FnAt K mg "_law_reel" (top 44) ["cell"]):
  y0 P w K mg base 41 "_law_reel" ["cell"] 1 (λds=>match ds with|[.int c]=>some (rD ((c.natAbs:Int),((c.fmod 2147483647+1)*742938285).fmod 2147483647))|_=>none):=by
 obtain⟨f,fd,U,hm,hB⟩:=U.ex;have nd:(["cell"]:List Str).Nodup:=by decide +kernel
 refine Mo U hm hB (N:=["cell"]) ⟨rfl,rfl,rfl,by decide +kernel,rfl,by decide +kernel,by decide +kernel⟩ rfl rfl (λbF A outer s H E hr=>
  gZ (a6 (mm T.abs (a6 (a5 0) a9)) (a6 (j9 (bN (eI (j9 (a5 0) a8) a8) a8) a8) a9))) ?_
 intro ds out hl hF;split at hF
 ·rename_i c;cases hF;have e1:=i5 (a:=c) (b:=2147483647) (by decide);have e2:=mulR (c.fmod 2147483647+1) (b:=742938285) (by decide) (by decide);have e3:=i5 (a:=(c.fmod 2147483647+1)*742938285) (b:=2147483647) (by decide);have z2:2<=sizeLine:=sz (by decide);simp![jP,e1,e2,e3,c9,z2]
 ·cases hF
theorem Qs(T:TX P K mg)(U:FnAt K mg "_law_take" (top 45) ["reel","many"]):fM P w K mg base 41 "_law_take" ["reel","many"] 2 ik:=by
 obtain⟨f,fd,U,hm,hB⟩:=U.ex;have nd:(["reel","many","found","stir"]:List Str).Nodup:=by decide +kernel
 refine rR U hm hB (N:=["reel","many","found","stir"]) ⟨rfl,rfl,rfl,by decide +kernel,rfl,by decide +kernel,by decide +kernel⟩ rfl (λbF A outer s H E hr=>
  (ae (bc (Mm (aj (a5 0) a8) (vP a8 a8)) (ae (aC 2 nd (j9 (aj (a5 0) a8) (a5 1)))
  (ae (uG 0 (aD (gu T.seer hr (aj (a5 0) a8) (a5 1))))
  (ag (fH (aD (a5 2)))))) aV)
  (ae (uG 0 (aD (j9 (eI (bN (aj (a5 0) a8) a8) a8) a8)))
  (ae (aC 3 nd (j9 (bN (aj (a5 0) a8) (aj (a5 0) a8)) a8))
  (ag (fH (aD (j9 (gu T.seer hr (j9 (bN (a5 3) a8) a8) a8) (a5 1))))))))) ?_
 intro ds es d cU hl hF;unfold ik at hF;split at hF
 ·rename_i a b m;split at hF
  ·rename_i h;obtain⟨hR,h1,h2⟩:=h;have xB:m≠0:=by omega
   have i0:∀x y:Dat,gD [x,y] 0=some x:=λ_ _=>rfl;have i1:∀x y:Dat,gD [x,y] 1=some y:=λ_ _=>rfl;have n0:mO 2 0=some 0:=rfl;have n1:mO 2 1=some 1:=rfl;by_cases CH:(10:Int)^18<=a
   ·have t1:tk (a,b) m=a.fmod m:=by unfold tk;exact if_pos CH
    have t2:tr (a,b) m=(a.fdiv m,b):=by unfold tr;exact if_pos CH
    rw[t1,t2]at hF;cases hF;have e1:=i5 (a:=a) (b:=m) xB;have e2:=iZ (a:=a) (b:=m) xB (P6 h1 h2);simp![i0,i1,KH,CI,e1,e2,eq_true CH,n0,n1]
   ·have t1:tk (a,b) m=(((ke b*69621).fmod 2147483587).fdiv 8).fmod m:=by unfold tk;exact if_neg CH
    have t2:tr (a,b) m=(a,nq b):=by unfold tr;exact if_neg CH
    rw[t1,t2]at hF;cases hF;have b1:=F7 b;have b2:=O5 b;have e1:=mulR b (b:=48271) (by decide) (by decide);have e2:vW (.int (b*48271+11)) (.int 2147483647)=some (.int (nq b)):=i5 (by decide);have e3:jK (.int (nq b)) (.int (nq b))=some (.int (nq b*nq b)):=mulR _ (by omega) (by omega);have e4:vW (.int (nq b*nq b)) (.int 2147483629)=some (.int (ke b)):=i5 (by decide);have e5:=mulR (ke b) (b:=69621) (by decide) (by decide);have e6:=i5 (a:=ke b*69621) (b:=2147483587) (by decide);have e7:=iZ (a:=(ke b*69621).fmod 2147483587) (b:=8) (by decide) (by decide);have e8:=i5 (a:=((ke b*69621).fmod 2147483587).fdiv 8) (b:=m) xB;simp![i0,i1,KH,CI,c9,e1,e2,e3,e4,e5,e6,e7,e8,eq_false CH,n0,n1]
  ·cases hF
 ·cases hF
def iw:List Dat->Option Dat
 |[.int n,.int d]=>if 0<d/\d.natAbs<2^8000000 then some (mk n d)else none
 |_=>none
theorem kT{d:Int}(h:0<d)(hb:d.natAbs<2^8000000):iw [.int n,.int d]=some (mk n d):=if_pos ⟨h,hb⟩
def Lv:aw->Nat
 |_::some (.a7 (.int d))::_=>d.natAbs+1
 |_=>0
abbrev P9:ar->Option Bool:=bS (f2 gK (aN 3) (fC (Dat.int 0)))
abbrev Pa:aw->Option Fl:=ID 2 3 (bh (aN 3) (bh (f2 vW (aN 2) (aN 3)) cG))
theorem Cq(x y:Option Slot):∀(n:Nat) (a b:Int),0<=a->0<=b->b.natAbs<n->fR P9 Pa n [x,y,~~~.int a,~~~.int b]=some (.nx [x,y,~~~.int (gcd a b),~~~.int 0])
 |0,a,b,_,_,h=>by omega
 |n+1,a,b,ha,hb,h=>by
  have eT:∀b:Int,P9 (c7 [x,y,~~~.int a,~~~.int b])=some (!decide (b=0)):=λb=>by
   show(gK (.int b) (.int 0)).bind lF=_;rw[fm];rfl
  by_cases e:b=0
  ·subst e;rw[yw (by rw[eT];rfl)];have:((gcd a 0:Nat):Int)=a:=by rw[Int.gcd_zero_right];omega
   rw[this]
  ·have hp:0<b:=by omega
   have bd:=mx a hp;have e1:Pa [x,y,~~~.int a,~~~.int b]=some (.nx [x,y,~~~.int b,~~~.int (a.fmod b)]):=by
    have em:=i5 (a:=a) (b:=b) e;simp![ID,em]
   rw[yv (by rw[eT,decide_eq_false e];rfl) e1,Cq x y n b (a.fmod b) hb bd.1 (by omega),Fr.Ad a b hp]
theorem Nk(T:TX P K mg)(U:FnAt K mg "_law_make" (top 46) ["n","d"]):Dn P w K mg base 41 "_law_make" ["n","d"] 2 iw:=by
 obtain⟨f,fd,U,hm,hB⟩:=U.ex;have nd:(["n","d","one","other"]:List Str).Nodup:=by decide +kernel
 refine ic U hm hB (N:=["n","d","one","other"]) ⟨rfl,rfl,rfl,by decide +kernel,rfl,by decide +kernel,by decide +kernel⟩ rfl (λbF A outer s H E hr=>
  (ae (aC 2 nd (mm T.abs (a6 (a5 0) a9)))
  (ae (aC 3 nd (a5 1))
  (ae (uF Lv PassesOwn.never (dg hr (a5 3) a8) (ag (IJ 2 3 rfl nd (by decide) (a6 (a5 3) (a6 (j9 (a5 2) (a5 3)) a9)))))
  (ag (ax (aX (k:=0) (a6 (gu T.seer hr (a5 0) (a5 2)) (a6 (gu T.seer hr (a5 1) (a5 2)) a9))))))))) ?_
 intro ds r hl hF;unfold iw at hF;split at hF
 ·rename_i n d;split at hF
  ·rename_i h;obtain⟨h1,h2⟩:=h;cases hF;have g0:gcd (n.natAbs:Int) d=gcd n d:=by
    unfold gcd;rw[natAbs_natCast]
   have hl:=Cq (some (.a7 (.int n))) (some (.a7 (.int d))) (d.natAbs+1) n.natAbs d (by omega) (by omega) (by omega);rw[g0]at hl;have hw:mF Lv P9 Pa [~~~.int n,~~~.int d,~~~.int n.natAbs,~~~.int d]=_:=hl;have gp:=Fr.mv (n:=n) (d:=d) (by omega);have gl:gcd n d<=d.natAbs:=le_of_dvd (by omega) (Int.ofNat_dvd_left.mp (gcd_dvd_right n d));have lg:(gcd n d:Int).natAbs.log2<9000000:=lt_trans (log2_small (k:=8000000) (by decide) (by rw[natAbs_natCast];exact lt_of_le_of_lt gl h2)) (by decide);have e1:=iZ (a:=n) (b:=(gcd n d:Int)) (by omega) lg;have e2:=iZ (a:=d) (b:=(gcd n d:Int)) (by omega) lg;have en:n.fdiv (gcd n d:Int)=Fr.num n d:=by unfold Fr.num Fr.dv;rw[if_neg (by omega)]
   have ed:d.fdiv (gcd n d:Int)=Fr.den n d:=by unfold Fr.den Fr.dv;rw[if_neg (by omega)]
   rw[en]at e1;rw[ed]at e2;have z2:2<=sizeLine:=sz (by decide);refine bX ?_;simp!;rw[aA (af:=[~~~.int n,~~~.int d,~~~.int n.natAbs,none]) (by simp![jP])];rw[aA (af:=[~~~.int n,~~~.int d,~~~.int n.natAbs,~~~.int d]) (by simp![if_true])];rw[aA (af:=[~~~.int n,~~~.int d,~~~.int (gcd n d),~~~.int 0]) hw];simp![e1,e2,z2]
  ·cases hF
 ·cases hF
abbrev NB:=lb λp q r s=>some (mk (p*s+r*q) (q*s))
theorem Nj(T:TX P K mg)(iy:Dn P w K mg base 41 "_law_make" ["n","d"] 2 iw)(U:FnAt K mg "_law_plus" (top 47) ["a","b"]):Dn P w K mg base 42 "_law_plus" ["a","b"] 2 NB:=by
 obtain⟨f,fd,U,hm,hB⟩:=U.ex;have nd:(["a","b"]:List Str).Nodup:=by decide +kernel
 refine ic U hm hB (N:=["a","b"]) ⟨rfl,rfl,rfl,by decide +kernel,rfl,by decide +kernel,by decide +kernel⟩ rfl (λbF A outer s H E hr=>
  (ag (ax (ay iy hr (a6 (eI (bN (aj (a5 0) a8) (aj (a5 1) a8)) (bN (aj (a5 1) a8) (aj (a5 0) a8))) (a6 (bN (aj (a5 0) a8) (aj (a5 1) a8)) a9)))))) ?_
 intro ds d hl hF;obtain⟨p,q,r,s,rfl,g1,g2,e⟩:=fN hF;have z:=mul_pos g1.pos g2.pos;cases e;simp![lE,lD,mulM g1.mp g2.mq,mulM g2.mp g1.mq,mulM g1.mq g2.mq,c9,kT z (g1.mq.mul g2.mq)]
abbrev jY (x:Int×Int):Dat:=fr x.1 x.2
structure Sm (x:Int×Int):Prop where
 pos:0<x.2
 AB:gcd x.1 x.2=1
 ln:x.1.natAbs<2^100
 ld:x.2.natAbs<2^100
def cR (r:R) (g:Bool):(Int×Int)×R:=
 if tk r 8<4 then((tk (tr r 8) 7-3,1),tr (tr r 8) 7)
 else if tk r 8=4 then((0,1),tr r 8)
 else if tk r 8=7/\g=true then
  ((Fr.num (tk (tr r 8) (10^30)*(if tk (tr (tr r 8) (10^30)) 2=0 then 1 else -1)) (1+tk (tr (tr (tr r 8) (10^30)) 2) (10^29)),Fr.den (tk (tr r 8) (10^30)*(if tk (tr (tr r 8) (10^30)) 2=0 then 1 else -1)) (1+tk (tr (tr (tr r 8) (10^30)) 2) (10^29))),tr (tr (tr (tr r 8) (10^30)) 2) (10^29))
 else((Fr.num (tk (tr r 8) 41-20) (1+tk (tr (tr r 8) 41) 12),Fr.den (tk (tr r 8) 41-20) (1+tk (tr (tr r 8) 41) 12)),tr (tr (tr r 8) 41) 12)
theorem BM{d:Int}(h:0<d)(hn:n.natAbs<2^100)(hd:d.natAbs<2^100):Sm (Fr.num n d,Fr.den n d):=
 ⟨Fr.den_pos (by omega),Fr.AB (by omega),lt_of_le_of_lt (Fr.pN (by omega)) hn,lt_of_le_of_lt (Fr.pO (by omega)) hd⟩
variable {g:Bool}
theorem mw{r:R}(h:dC r):Sm (cR r g).1/\dC (cR r g).2:=by
 have o1:=dE (m:=8) h;unfold cR;split
 ·have b:=dH (tr r 8) (m:=7) (by decide);exact⟨⟨show(0:Int)<1 by decide,Int.gcd_one_right _,by show(tk (tr r 8) 7-3).natAbs<_;omega,show(1:Int).natAbs<2^100 by decide⟩,dE o1⟩
 ·split
  ·exact⟨⟨show(0:Int)<1 by decide,show gcd 0 1=1 by decide,show(0:Int).natAbs<2^100 by decide,show(1:Int).natAbs<2^100 by decide⟩,o1⟩
  ·split
   ·have b1:=dH (tr r 8) (m:=10^30) (by decide);have b2:=dH (tr (tr (tr r 8) (10^30)) 2) (m:=10^29) (by decide);refine⟨BM (by omega) ?_ (by omega),dE (dE (dE o1))⟩;split
    ·rw[Int.mul_one];omega
    ·rw[Int.mul_neg,Int.mul_one,natAbs_neg];omega
   ·have b1:=dH (tr r 8) (m:=41) (by decide);have b2:=dH (tr (tr r 8) 41) (m:=12) (by decide);exact⟨BM (by omega) (by omega) (by omega),dE (dE o1)⟩
def nc:List Dat->List Dat->Option (Dat×List Dat)
 |[.int a,.int b],[.bool g]=>if dC (a,b)then some (jY (cR (a,b) g).1,rD (cR (a,b) g).2)else none
 |_,_=>none
theorem rH{r:R}(h:dC r):nc [.int r.1,.int r.2] [.bool g]=some (jY (cR r g).1,rD (cR r g).2):=if_pos h
theorem S4:DX (.int 10) (.int 29)=some (.int (10^29)):=je (by unfold B5;decide)
theorem QM(T:TX P K mg)(cg:fM P w K mg base 41 "_law_take" ["reel","many"] 2 ik)(iy:Dn P w K mg base 41 "_law_make" ["n","d"] 2 iw)(U:FnAt K mg "_law_fraction" (top 52) ["reel","great"]):fM P w K mg base 42 "_law_fraction" ["reel","great"] 2 nc:=by
 obtain⟨f,fd,U,hm,hB⟩:=U.ex;have nd:(["reel","great","way","number"]:List Str).Nodup:=by decide +kernel
 refine rR U hm hB (N:=["reel","great","way","number"]) ⟨rfl,rfl,rfl,by decide +kernel,rfl,by decide +kernel,by decide +kernel⟩ rfl (λbF A outer s H E hr=>
  (ae (dQ 2 nd (bK 0 cg hr (aH (aD a8) aY)))
  (ae (bc (ox (a5 2) a8) (ag (fH (BY (aH (BZ (bK 0 cg hr (aH (aD a8) aY)) (aD a8)) (aH (aD a8) aY))))) aV)
  (ae (bc (cy hr (a5 2) a8) (ag (fH (aD (aX (k:=0) (a6 a8 (a6 a8 a9)))))) aV)
  (ae (bc (cD (fT (cy hr (a5 2) a8) (f6 (bJ (a5 1))))) (ae (dQ 3 nd (Mj (bK 0 cg hr (aH (aD (vP a8 a8)) aY)) (ot (aD (eC (a6 a8 (a6 (dw a8) a9)))) (bK 0 cg hr (aH (aD a8) aY)))))
  (ag (fH (yS iy hr (aH (aD (a5 3)) (aH (ou (aD a8) (bK 0 cg hr (aH (aD (vP a8 a8)) aY))) aY)))))) aV)
  (ag (fH (yS iy hr (aH (BZ (bK 0 cg hr (aH (aD a8) aY)) (aD a8)) (aH (ou (aD a8) (bK 0 cg hr (aH (aD a8) aY))) aY)))))))))) ?_
 intro ds es d cU hl hF;unfold nc at hF;split at hF
 ·rename_i a b g;split at hF
  ·rename_i hR;have o1:=dE (m:=8) hR;have f8:=cx (m:=8) hR (by decide) (by decide);have z2:2<=sizeLine:=sz (by decide);by_cases c4:tk (a,b) 8<4
   ·have ef:cR (a,b) g=((tk (tr (a,b) 8) 7-3,1),tr (tr (a,b) 8) 7):=by unfold cR;rw[if_pos c4]
    rw[ef]at hF;cases hF;have f7:=cx (m:=7) o1 (by decide) (by decide);simp![f8,f7,dh,fS,eq_true c4,z2]
   ·by_cases e4:tk (a,b) 8=4
    ·have ef:cR (a,b) g=((0,1),tr (a,b) 8):=by unfold cR;rw[if_neg c4,if_pos e4]
     rw[ef]at hF;cases hF;simp![f8,dh,fq,eq_false c4,eq_true e4,z2]
    ·by_cases e7:tk (a,b) 8=7/\g=true
     ·have ef:=(show cR (a,b) g=_ by unfold cR;rw[if_neg c4,if_neg e4,if_pos e7]);rw[ef]at hF;cases hF;obtain⟨e7,eg⟩:=e7;subst eg;have o2:=dE (m:=10^30) o1;have o3:=dE (m:=2) o2;have Yd:=cx (m:=10^30) o1 (by decide) (by decide);have Yf:=cx (m:=2) o2 (by decide) (by decide);have Ye:=cx (m:=10^29) o3 (by decide) (by decide);have b2:=dH (tr (tr (a,b) 8) (10^30)) (m:=2) (by decide);have b29:=dH (tr (tr (tr (a,b) 8) (10^30)) 2) (m:=10^29) (by decide);have ix:gD [Dat.int 1,Dat.int (-1)] (tk (tr (tr (a,b) 8) (10^30)) 2)=some (.int (if tk (tr (tr (a,b) 8) (10^30)) 2=0 then 1 else -1)):=by
       rcases(show tk (tr (tr (a,b) 8) (10^30)) 2=0\/tk (tr (tr (a,b) 8) (10^30)) 2=1 by omega)with h|h
       ·rw[h];rfl
       ·rw[h];rfl
      have em:jK (.int (tk (tr (a,b) 8) (10^30))) (.int (if tk (tr (tr (a,b) 8) (10^30)) 2=0 then 1 else -1))=some (.int (tk (tr (a,b) 8) (10^30)*(if tk (tr (tr (a,b) 8) (10^30)) 2=0 then 1 else -1))):=mulR _ (by split<;>decide) (by split<;>decide);generalize hs:(if tk (tr (tr (a,b) 8) (10^30)) 2=0 then(1:Int)else -1)=sg at ix em ⊢;have KU:=kT (n:=tk (tr (a,b) 8) (10^30)*sg) (d:=1+tk (tr (tr (tr (a,b) 8) (10^30)) 2) (10^29)) (by omega) (lt_of_lt_of_le (show _<2^100 by omega) (pow_le_pow_right (by decide) (by decide)));simp![f8,Yd,Yf,Ye,S3,S4,dh,fq,c9,ix,em,KU,eq_false c4,eq_false e4,eq_true e7,z2]
     ·have ef:=(show cR (a,b) g=_ by unfold cR;rw[if_neg c4,if_neg e4,if_neg e7]);rw[ef]at hF;cases hF;have o2:=dE (m:=41) o1;have Uk:=cx (m:=41) o1 (by decide) (by decide);have Um:=cx (m:=12) o2 (by decide) (by decide);have b12:=dH (tr (tr (a,b) 8) 41) (m:=12) (by decide);have KU:=kT (n:=tk (tr (a,b) 8) 41-20) (d:=1+tk (tr (tr (a,b) 8) 41) 12) (by omega) (lt_of_lt_of_le (show _<2^100 by omega) (pow_le_pow_right (by decide) (by decide)));by_cases Qk:tk (a,b) 8=7
      ·have eg:g=false:=by cases g with|false=>rfl|true=>exact absurd ⟨Qk,rfl⟩ e7
       subst eg;simp![f8,Uk,Um,dh,fq,c9,fS,KU,eq_false c4,eq_false e4,eq_true Qk,z2]
      ·simp![f8,Uk,Um,dh,fq,c9,fS,KU,eq_false c4,eq_false e4,eq_false Qk,z2]
  ·cases hF
 ·cases hF
def qW (xs:List (Int×Int)):Dat:=.tuple (xs.map jY)
abbrev KY (kind:Str) (xs:List (Int×Int)) (b:Int×Int):Dat:=.tuple [.str kind,qW xs,jY b]
def Kd (k:Str):Prop:=k="="\/k="<"\/k="<="
def mX:Nat->R->Bool->List (Int×Int)×R
 |0,r,_=>([],r)
 |n+1,r,g=>((cR r g).1::(mX n (cR r g).2 g).1,(mX n (cR r g).2 g).2)
theorem Ax:∀(n:Nat) {r:R} {g:Bool},dC r->(∀x∈(mX n r g).1,Sm x)/\dC (mX n r g).2/\(mX n r g).1.length=n
 |0,r,g,h=>⟨λx hx=>by simp[mX]at hx,h,rfl⟩
 |n+1,r,g,h=>by
  obtain⟨h1,h2⟩:=mw (g:=g) h;obtain⟨i1,i2,i3⟩:=Ax n (g:=g) h2;refine⟨λx hx=>?_,i2,by show(mX n (cR r g).2 g).1.length+1=_;rw[i3]⟩;rcases mem_cons.mp (show x∈(cR r g).1::(mX n (cR r g).2 g).1 from hx)with e|h
  ·rw[e];exact h1
  ·exact i1 x h
theorem xT{gt:Dat->Option cN}{fe:HF}{tl:aw}{g:Bool}(TV:∀d,∃as,gt d=some as/\∀r:R,dC r->∃F1,fe (setG (some (.own (rD r))::tl) as)=some (jY (cR r g).1,some (.own (rD (cR r g).2))::F1)):
  ∀(ak:List Dat) (r:R),dC r->kA gt fe tl ak (rD r)=some ((mX ak.length r g).1.map jY,rD (mX ak.length r g).2)
 |[],r,_=>rfl
 |d::ak,r,h=>by
  obtain⟨as,e1,e2⟩:=TV d;obtain⟨F1,e3⟩:=e2 r h;have ih:=xT TV ak (cR r g).2 (mw h).2;show(gt d).bind _=_;rw[e1];show(fe (setG (some (.own (rD r))::tl) as)).bind _=_;rw[e3];show((kA gt fe tl ak (rD (cR r g).2)).map _)=_;rw[ih];rfl
def WX:List Str:=["<=","<","<=","=","<"]
def zI (i:Int):Str:=WX.getD i.toNat "<"
theorem L4{i:Int}(h:0<=i/\i<5):gD [Dat.str "<=",Dat.str "<",Dat.str "<=",Dat.str "=",Dat.str "<"] i=some (.str (zI i))/\Kd (zI i):=by
 rcases(show i=0\/i=1\/i=2\/i=3\/i=4 by omega)with e|e|e|e|e
 ·rw[e];exact⟨rfl,.inr (.inr rfl)⟩
 ·rw[e];exact⟨rfl,.inr (.inl rfl)⟩
 ·rw[e];exact⟨rfl,.inr (.inr rfl)⟩
 ·rw[e];exact⟨rfl,.inl rfl⟩
 ·rw[e];exact⟨rfl,.inr (.inl rfl)⟩
abbrev P8 (r:R) (m:Int) (g:Bool):List (Int×Int)×R:=mX m.toNat (tr r 5) g
abbrev Gz (r:R) (m:Int) (g:Bool):(Int×Int)×R:=cR (P8 r m g).2 g
def ip:List Dat->List Dat->Option (Dat×List Dat)
 |[.int a,.int b],[.int m,.bool g]=>if dC (a,b)/\0<=m/\m<=9 then some (KY (zI (tk (a,b) 5)) (P8 (a,b) m g).1 (Gz (a,b) m g).1,rD (Gz (a,b) m g).2)else none
 |_,_=>none
theorem Im{r:R}(h:dC r)(h1:0<=m)(h2:m<=9):ip [.int r.1,.int r.2] [.int m,.bool g]=some (KY (zI (tk r 5)) (P8 r m g).1 (Gz r m g).1,rD (Gz r m g).2):=if_pos ⟨h,h1,h2⟩
theorem iq(lo:Int)(n:Nat):(gH lo n).length=n:=by unfold gH;rw[length_map,length_range]
theorem QC(T:TX P K mg)(cg:fM P w K mg base 42 "_law_take" ["reel","many"] 2 ik)(lj:fM P w K mg base 42 "_law_fraction" ["reel","great"] 2 nc)(U:FnAt K mg "_law_line" (top 53) ["reel","many","great"]):fM P w K mg base 43 "_law_line" ["reel","many","great"] 3 ip:=by
 obtain⟨f,fd,U,hm,hB⟩:=U.ex;have nd:(["reel","many","great","kind","parts"]:List Str).Nodup:=by decide +kernel
 refine rR U hm hB (N:=["reel","many","great","kind","parts"]) ⟨rfl,rfl,rfl,by decide +kernel,rfl,by decide +kernel,by decide +kernel⟩ rfl (λbF A outer s H E hr=>
  (ae (dQ 3 nd (ot (aD (eC (a6 aT (a6 aT (a6 aT (a6 aT (a6 aT a9))))))) (bK 0 cg hr (aH (aD a8) aY))))
  (ae (dQ 4 nd (xn T.tuple (aH (tv (xm 0 rfl (pM (tn:=["k"]) (fv:=["reel","great"]) (js:=[0,2]) rfl (by decide +kernel) (by decide +kernel) rfl (by decide +kernel) (by decide +kernel) rfl
   (λx hx=>by((have eh:x="reel"\/x="great":=(by simpa using hx));(rcases eh with rfl|rfl<;>exact⟨_,rfl⟩)))
   (λp hp=>by((have fc:p=(("reel" : Str),(0:Nat))\/p=(("great" : Str),(2:Nat)):=(by simpa using hp));(rcases fc with rfl|rfl<;>exact⟨rfl,.inr (.inl rfl),.inl rfl,λz=>by cases z⟩)))) (ju T.range (a6 (a5 1) a9)) (λ_ _ _ _=>(aq 2 (show(["reel","great","k"]:List Str).Nodup by decide +kernel))) (λ_ _ _ _=>(bK 0 lj hr (aH (aD (a5 1)) aY))) (cV rfl))) aY)))
  (ag (fH (BY (aH (aD (a5 3)) (aH (aD (a5 4)) (aH (bK 0 lj hr (aH (aD (a5 2)) aY)) aY))))))))) ?_
 intro ds es d cU hl hF;unfold ip at hF;split at hF
 ·rename_i a b m g;split at hF
  ·rename_i h;obtain⟨hR,h1,h2⟩:=h;cases hF;have o1:=dE (m:=5) hR;have f5:=cx (m:=5) hR (by decide) (by decide);have k5:=(L4 (dH (a,b) (m:=5) (by decide))).1;obtain⟨p1,p2,p3⟩:=Ax m.toNat (g:=g) o1;have ff:=rH (g:=g) p2;have z5:5<=sizeLine:=sz (by decide);have z3:3<=sizeLine:=sz (by decide);have z10:m.toNat<sizeLine:=lt_of_lt_of_le (show m.toNat<1000 by omega) (sz (by decide));have eR:jI [.int m]=some (gH 0 m.toNat):=if_pos ⟨by omega,by omega⟩;have ec:=xT (gt:=aName 2) (fe:=pE 0 2 nc (jf (iL (aN 1)) mT)) (tl:=[~~~.bool g,none]) (g:=g) (λd=>⟨[(2,d)],rfl,λr hr=>⟨[~~~.bool g,~~~d],by
    have e:=rH (g:=g) hr;simp![e]⟩⟩) (gH 0 m.toNat) (tr (a,b) 5) o1
   rw[iq]at ec;simp![f5,k5,z5,m9,km,eR,ec,z10,iq,p3,length_map,ff,z3];rfl
  ·cases hF
 ·cases hF
variable {n m:Nat}
theorem OY{a b:Nat}(ha:a<2^n)(hb:b<2^m):a*b<2^(n+m):=by
 have h:=Nat.mul_lt_mul'' ha hb;rw[pw]at h;exact h
def WO (n d:Int):Int×Int:=(Fr.num n d,Fr.den n d)
def pl (x y:Int×Int):Int×Int:=WO (x.1*y.2+y.1*x.2) (x.2*y.2)
def P1 (x y:Int×Int):Bool:=decide (x.1*y.2<y.1*x.2)
theorem jv{α β γ:Type}{f:α->β->γ}{z:γ}:∀{xs:List α} {ys:List β},z∈zipWith f xs ys->∃x∈xs,∃y∈ys,z=f x y
 |[],ys,h=>by simp at h
 |x::xs,[],h=>by simp at h
 |x::xs,y::ys,h=>by
  rw[List.zipWith_cons_cons]at h;rcases mem_cons.mp h with e|h
  ·exact⟨x,mem_cons_self,y,mem_cons_self,e⟩
  ·obtain⟨a,ha,b,hb,e⟩:=jv h;exact⟨a,mem_cons_of_mem _ ha,b,mem_cons_of_mem _ hb,e⟩
theorem CL{x y:Int×Int}(h:jY x=jY y):x=y:=by
 simp only[PySem.W.Dat.tuple.injEq,List.cons.injEq,PySem.W.Dat.int.injEq,and_true]at h;exact Prod.ext h.1 h.2
theorem Jz{xs ys:List (Int×Int)}(h:qW xs=qW ys):xs=ys:=by
 unfold qW at h;rw[PySem.W.Dat.tuple.injEq]at h;exact(List.map_inj_right λx y e=>CL e).mp h
theorem Gm(xs:List (Int×Int)):kqdOk 9 (qW xs)=true:=by
 show(xs.map jY).all (kqdOk 8)=true;rw[all_map,all_eq_true];exact λx _=>rfl
theorem wm{d e:Dat}(h1:kqdOk 9 d=true)(h2:kqdOk 9 e=true)(n1:∀b,d≠.bool b)(n2:∀b,d≠.str b):eqB d e=some (lL d e):=by
 unfold eqB;split
 ·exact absurd rfl (n1 _)
 ·exact absurd rfl (n2 _)
 ·exact if_pos ⟨h1,h2⟩
theorem N1(xs ys:List (Int×Int)):cM (qW xs) (qW ys)=some (.bool (decide (xs=ys))):=by
 unfold cM;rw[wm (Gm xs) (Gm ys) (λb h=>by cases h) (λb h=>by cases h)];by_cases e:xs=ys
 ·subst e;rw[lB rfl,decide_eq_true rfl];rfl
 ·rw[lC λz=>e (Jz z),decide_eq_false e];rfl
theorem CV(x y:Int×Int):cM (jY x) (jY y)=some (.bool (decide (x=y))):=by
 unfold cM;rw[wm rfl rfl (λb h=>by cases h) (λb h=>by cases h)];by_cases e:x=y
 ·subst e;rw[lB rfl,decide_eq_true rfl];rfl
 ·rw[lC λz=>e (CL z),decide_eq_false e];rfl
theorem MP(x y:Int×Int):gK (jY x) (jY y)=some (.bool (!decide (x=y))):=by
 have h:=CV x y;unfold cM at h;unfold gK;obtain⟨k,e1,e2⟩:=ba h;rw[e1];injection e2 with e2;show some (Dat.bool (!k))=_;rw[e2]
theorem cS(x y:Str):cM (.str x) (.str y)=some (.bool (decide (x=y))):=rfl
theorem jJ(x y:Str):gK (.str x) (.str y)=some (.bool (!decide (x=y))):=rfl
theorem R0(x y z:Dat):gD [x,y,z] 0=some x:=rfl
theorem Wk(x y z:Dat):gD [x,y,z] 1=some y:=rfl
theorem Wj(x y z:Dat):gD [x,y,z] 2=some z:=rfl
def kept (k:Str) (b:Int×Int) (kd:Str) (B:Int×Int):Bool:=if B=b then decide (k="<=") || decide (kd="<")else P1 B b
abbrev qD (q:Rat):Dat:=.tuple [.int q.num,.int (q.den:Int)]
structure SR (n:Nat) (q:Rat):Prop where
 ln:q.num.natAbs<2^n
 ld:q.den<2^n
variable {q:Rat}
theorem SR.up(h:SR n q)(hn:n<=m):SR m q:=⟨lt_of_lt_of_le h.ln (pow_le_pow_right (by decide) hn),lt_of_lt_of_le h.ld (pow_le_pow_right (by decide) hn)⟩
theorem SR.gd(h:SR n q)(hn:n<=4000000):Gd q.num (q.den:Int):=⟨by have:=q.den_pos;omega,by show Nat.gcd _ _=1;rw[natAbs_natCast];exact q.reduced,⟨(h.up hn).ln⟩,⟨by rw[natAbs_natCast];exact(h.up hn).ld⟩⟩
variable {a b:Rat}
theorem lG(ha:SR n a)(hb:SR m b)(hn:n<=4000000)(hm:m<=4000000):j6 [qD a,qD b]=some (qD (a+b)):=by
 have:=n9 (g:=λp q r s=>some (mk (p*s+r*q) (q*s))) (ha.gd hn) (hb.gd hm);obtain⟨e1,e2⟩:=Fr.BX a b;refine this.trans (congrArg some ?_);show Dat.tuple [.int (Fr.num _ _),.int (Fr.den _ _)]=_;rw[e1,e2]
theorem my(ha:SR n a)(hb:SR m b)(hn:n<=4000000)(hm:m<=4000000):fz [qD a,qD b]=some (qD (a-b)):=by
 have:=n9 (g:=λp q r s=>some (mk (p*s-r*q) (q*s))) (ha.gd hn) (hb.gd hm);obtain⟨e1,e2⟩:=Fr.BU a b;refine this.trans (congrArg some ?_);show Dat.tuple [.int (Fr.num _ _),.int (Fr.den _ _)]=_;rw[e1,e2]
theorem wJ(ha:SR n a)(hb:SR m b)(hn:n<=4000000)(hm:m<=4000000):ka [qD a,qD b]=some (qD (a*b)):=by
 have:=n9 (g:=λp q r s=>some (mk (p*r) (q*s))) (ha.gd hn) (hb.gd hm);obtain⟨e1,e2⟩:=Fr.BV a b;refine this.trans (congrArg some ?_);show Dat.tuple [.int (Fr.num _ _),.int (Fr.den _ _)]=_;rw[e1,e2]
theorem Ig(ha:SR n a)(hb:SR m b)(hn:n<=4000000)(hm:m<=4000000)(h0:b.num≠0):oK [qD a,qD b]=some (qD (a/b)):=by
 have:=n9 (g:=λp q r s=>if r≠0 then some (mk (p*s) (q*r))else none) (ha.gd hn) (hb.gd hm);rw[if_pos h0]at this;obtain⟨e1,e2⟩:=Fr.BW a b h0;refine this.trans (congrArg some ?_);show Dat.tuple [.int (Fr.num _ _),.int (Fr.den _ _)]=_;rw[e1,e2]
theorem mz(ha:SR n a)(hb:SR m b)(hn:n<=4000000)(hm:m<=4000000):fQ [qD a,qD b]=some (.bool (decide (a<b))):=by
 have:=n9 (g:=λp q r s=>some (.bool (decide (p*s<r*q)))) (ha.gd hn) (hb.gd hm);rw[show fQ [qD a,qD b]=_ from this];congr 2
 exact decide_eq_decide.mpr (Fr.yR a b).symm
theorem ur{N D:Int}(hD:D≠0)(h1:Fr.num N D=q.num)(h2:Fr.den N D=(q.den:Int))(hn:N.natAbs<2^n)(hd:D.natAbs<2^n):SR n q:=by
 have a:=Fr.pN (n:=N) (d:=D) hD;have b:=Fr.pO (n:=N) (d:=D) hD;rw[h1]at a;rw[h2,natAbs_natCast]at b;exact⟨lt_of_le_of_lt a hn,lt_of_le_of_lt b hd⟩
theorem sS(q:Rat):(q.den:Int)≠0:=by have:=q.den_pos;omega
variable {a b:Int}
theorem cT(ha:a.natAbs<2^n)(hb:b.natAbs<2^m):(a*b).natAbs<2^(n+m):=by rw[natAbs_mul];exact OY ha hb
theorem rz(ha:a.natAbs<2^n)(hb:b.natAbs<2^n):(a+b).natAbs<2^(n+1):=by
 have e:(2:Nat)^(n+1)=2^n*2:=Nat.pow_succ 2 n;rw[e];generalize (2:Nat)^n=z at *;omega
theorem HW(ha:a.natAbs<2^n)(hb:b.natAbs<2^n):(a-b).natAbs<2^(n+1):=by
 have e:(2:Nat)^(n+1)=2^n*2:=Nat.pow_succ 2 n;rw[e];generalize (2:Nat)^n=z at *;omega
theorem dW{x:Nat}(h:x<2^n)(hn:n<=m):x<2^m:=lt_of_lt_of_le h (pow_le_pow_right (by decide) hn)
theorem SR.dn(h:SR n q):(q.den:Int).natAbs<2^n:=by rw[natAbs_natCast];exact h.ld
variable {a b:Rat}
theorem SR.add(ha:SR n a)(hb:SR m b):SR (n+m+1) (a+b):=by
 obtain⟨e1,e2⟩:=Fr.BX a b;refine ur (mul_ne_zero (sS a) (sS b)) e1 e2 (rz (cT ha.ln hb.dn) (by rw[add_comm n m];exact cT hb.ln ha.dn)) (dW (cT ha.dn hb.dn) (by omega))
theorem SR.sub(ha:SR n a)(hb:SR m b):SR (n+m+1) (a-b):=by
 obtain⟨e1,e2⟩:=Fr.BU a b;refine ur (mul_ne_zero (sS a) (sS b)) e1 e2 (HW (cT ha.ln hb.dn) (by rw[add_comm n m];exact cT hb.ln ha.dn)) (dW (cT ha.dn hb.dn) (by omega))
theorem SR.mul(ha:SR n a)(hb:SR m b):SR (n+m) (a*b):=by
 obtain⟨e1,e2⟩:=Fr.BV a b;exact ur (mul_ne_zero (sS a) (sS b)) e1 e2 (cT ha.ln hb.ln) (cT ha.dn hb.dn)
theorem SR.div(ha:SR n a)(hb:SR m b)(h0:b.num≠0):SR (n+m) (a/b):=by
 obtain⟨e1,e2⟩:=Fr.BW a b h0;exact ur (mul_ne_zero (sS a) h0) e1 e2 (cT ha.ln hb.dn) (cT ha.dn hb.ln)
theorem Ng(T:TX P K mg)(lh:Dn P w K mg base 42 "make" ["n","d"] 2 j7)(U:FnAt K mg "minus" (top 4) ["a","b"]):Dn P w K mg base 43 "minus" ["a","b"] 2 fz:=by
 obtain⟨f,fd,U,hm,hB⟩:=U.ex;have nd:(["a","b"]:List Str).Nodup:=by decide +kernel
 refine ic U hm hB (N:=["a","b"]) ⟨rfl,rfl,rfl,by decide +kernel,rfl,by decide +kernel,by decide +kernel⟩ rfl (λbF A outer s H E hr=>
  (ag (ax (ay lh hr (a6 (oy (bN (aj (a5 0) a8) (aj (a5 1) a8)) (bN (aj (a5 1) a8) (aj (a5 0) a8))) (a6 (bN (aj (a5 0) a8) (aj (a5 1) a8)) a9 (hs:=cC)) (hs:=cC)))))) ?_
 intro ds d hl hF;obtain⟨p,q,r,s,rfl,g1,g2,e⟩:=fN hF;have z:=mul_pos g1.pos g2.pos;cases e;simp![lE,lD,mulM g1.mp g2.mq,mulM g2.mp g1.mq,mulM g1.mq g2.mq,fS,oD (ne_of_gt z) (g1.mq.mul g2.mq)]
theorem Qv(T:TX P K mg)(lh:Dn P w K mg base 42 "make" ["n","d"] 2 j7)(U:FnAt K mg "over" (top 6) ["a","b"]):Dn P w K mg base 43 "over" ["a","b"] 2 oK:=by
 obtain⟨f,fd,U,hm,hB⟩:=U.ex;have nd:(["a","b"]:List Str).Nodup:=by decide +kernel
 refine ic U hm hB (N:=["a","b"]) ⟨rfl,rfl,rfl,by decide +kernel,rfl,by decide +kernel,by decide +kernel⟩ rfl (λbF A outer s H E hr=>
  (ag (ax (ay lh hr (a6 (bN (aj (a5 0) a8) (aj (a5 1) a8)) (a6 (bN (aj (a5 0) a8) (aj (a5 1) a8)) a9 (hs:=cC)) (hs:=cC)))))) ?_
 intro ds d hl hF;obtain⟨p,q,r,s,rfl,g1,g2,e⟩:=fN hF;by_cases h0:r≠0
 ·rw[if_pos h0]at e;have z:q*r≠0:=mul_ne_zero (ne_of_gt g1.pos) h0;cases e;simp![lE,lD,mulM g1.mp g2.mq,mulM g1.mq g2.mp,oD z (g1.mq.mul g2.mp)]
 ·rw[if_neg h0]at e;cases e
def bw:FM.Kn->Str
 | .eq=>"="
 | .le=>"<="
 | .lt=>"<"
def aK (r:FM.Row):Dat:=dU (bw r.1,r.2)
abbrev fE (l:List Int):Dat:=.tuple (l.map Dat.int)
theorem MT{a b:FM.Kn}(h:bw a=bw b):a=b:=by cases a<;>cases b<;>first|rfl|exact absurd h (by decide +kernel)
theorem BQ{a b:FM.Row}(h:aK a=aK b):a=b:=by
 have:=oZ h;obtain⟨e1,e2⟩:=Prod.mk.inj this;exact Prod.ext (MT e1) e2
theorem i6(k:FM.Kn):(bw k="=")↔k=.eq:=by cases k<;>simp[bw]<;>decide +kernel
theorem yi(k:FM.Kn):(bw k="<")↔k=.lt:=by cases k<;>simp[bw]<;>decide +kernel
theorem kJ(r:FM.Row):bA (aK r) (.int 0)=some (.str (bw r.1)):=rfl
theorem iG(r:FM.Row):bA (aK r) (.int 1)=some (fE r.2):=rfl
variable {j:Nat}
theorem gT{l:List Int}(h:j<l.length):bA (fE l) (.int (j:Int))=some (.int (l.getD j 0)):=by
 show gD (l.map Dat.int) (j:Int)=_;unfold L2.gD L2.mO;rw[if_pos (by omega),if_pos (by rw[length_map];omega)];show(l.map Dat.int)[((j:Int)).toNat]?=_;rw[toNat_natCast,getElem?_map,getD_eq_getElem?_getD,getElem?_eq_getElem h];rfl
theorem P5{l:List Int}{x:Int}(h:x∈l)(hx:x≠0):FM.lowG l<=x.natAbs:=le_of_dvd (by omega) (Int.ofNat_dvd_left.mp (FM.mM h))
theorem HE(T:TX P K mg)(gF:Dn P w K mg base 41 "common_divisor" ["a","b"] 2 pR)(U:FnAt K mg "lowered" (top 12) ["numbers"]):
  ∃F,Dn P w K mg base 42 "lowered" ["numbers"] 1 F/\∀(l:List Int),l.length<=900->(∀x∈l,x.natAbs<2^9000000)->(∃x∈l,x≠0)->F [.list (l.map .int)]=some (fE (FM.lowered l)):=by
 refine⟨_,cO ["numbers","divisor","number"] U λnd _ _ _ _ _ _ _ hr=>
  (ae (aC 1 nd a8)
  (ae (dI PassesOwn.never rfl (a5 0) (aq 2 nd)
  (ag (aC 1 nd (ay gF hr (a6 (a5 1) (a6 (mm T.abs (a6 (a5 2) a9)) a9 (hs:=aZ)))))))
  (ag (ax (gV T.tuple (a6 (cE (gn rfl (fw (tn:=["number"]) (fv:=["divisor"]) (js:=[1]) rfl (by decide +kernel) (by decide +kernel) rfl (by decide +kernel) (by decide +kernel) rfl
   (λx hx=>by((have eh:x="divisor":=(by simpa using hx));(rcases eh with rfl<;>exact⟨_,rfl⟩)))
   (λp hp=>by((have fc:p=(("divisor" : Str),(1:Nat)):=(by simpa using hp));(rcases fc with rfl<;>exact⟨rfl,.inr (.inl rfl),.inl rfl,λz=>by cases z⟩)))) (a5 0) (λ_ _ _ _=>(aq 0 (show(["number","divisor"]:List Str).Nodup by decide +kernel))) (λ_ _ _ _=>d9) (λ_ _ _ _=>(gu T.seer hr (a5 0) (a5 1))) (cV rfl))) a9)))))),?_⟩
 intro l hl hb ⟨x0,jh,cw⟩;have hp:=FM.tG jh cw;have Xl:((FM.lowG l:Int)).natAbs.log2<9000000:=by
  refine log2_small (k:=9000000) (by decide) ?_;rw[natAbs_natCast];exact lt_of_le_of_lt (P5 jh cw) (hb x0 jh)
 have zl:l.length<sizeLine:=lt_of_lt_of_le (show l.length<1000 by omega) (sz (by decide));refine bX ?_;simp!;rw[aA (af:=[~~~.list (l.map .int),~~~.int 0,none]) (by simp![])];refine gm (I:=_) (gX (l:=l) (s:=0) Dat.int (fun(g:Nat) Γ=>∃u,Γ=[~~~.list (l.map .int),~~~.int (g:Int),u]) (λ_ _=>True) (λg x=>Nat.gcd g x.natAbs) (d:=.list (l.map .int)) rfl rfl trivial ⟨none,rfl⟩ ?_) ?_
 ·rintro g x l' Γ _ ⟨u,rfl⟩;refine⟨[(2,.int x)],rfl,?_⟩;dsimp!;have e1:pR [.int (g:Int),.int (x.natAbs:Int)]=some (.int ((Nat.gcd g x.natAbs:Nat):Int)):=by
   show(if 0<=(g:Int)/\0<=(x.natAbs:Int)then some (Dat.int (gcd (g:Int) (x.natAbs:Int)))else none)=_;rw[if_pos ⟨by omega,by omega⟩];rfl
  exact⟨[~~~.list (l.map .int),~~~.int ((Nat.gcd g x.natAbs:Nat):Int),~~~.int x],by simp![jP,e1],⟨_,rfl⟩,trivial⟩
 ·rintro af ⟨u,rfl⟩;have eG:(l.foldl (λg x=>Nat.gcd g x.natAbs) 0:Nat)=FM.lowG l:=rfl;rw[eG];have ec:bV (aName 0) fk (L3.f2 si (aN 0) (aN 1)) [none,some (.int (FM.lowG l:Int))] (l.map .int)=some ((FM.lowered l).map .int):=by
   refine de _ _ (by rw[length_map,length_map,FM.sL]) λi d o h1 h2=>?_;unfold FM.lowered at h2;rw[getElem?_map]at h1 h2;rw[getElem?_map]at h2;cases hq:l[i]? with
   |none=>rw[hq]at h1;cases h1
   |some x=>
    rw[hq]at h1 h2;cases h1;cases h2;refine⟨[(0,.int x)],rfl,?_⟩;have e:=iZ (a:=x) (b:=(FM.lowG l:Int)) (by omega) Xl;simp![e]
  simp![length_map,zl,ec]
theorem yr:∀(xs ys:List Int),dF (xs.map Dat.int) (ys.map Dat.int)=(xs.zip ys).map λz=>Dat.tuple [.int z.1,.int z.2]
 |[],ys=>by simp[dF]
 |x::xs,[]=>by simp[dF]
 |x::xs,y::ys=>by simp only[map_cons,dF,zip_cons_cons,yr xs ys]
theorem Nf(T:TX P K mg){Fl:List Dat->Option Dat}(K9:Dn P w K mg base 42 "lowered" ["numbers"] 1 Fl)(hL:∀(l:List Int),l.length<=900->(∀x∈l,x.natAbs<2^9000000)->(∃x∈l,x≠0)->Fl [.list (l.map .int)]=some (fE (FM.lowered l)))(U:FnAt K mg "mixed" (top 15) ["one","much","other","more"]):
  ∃F,Dn P w K mg base 43 "mixed" ["one","much","other","more"] 4 F/\∀(b:Nat) (one other:List Int) (bR more:Int),b<=4400000->one.length<=900->(∀x∈one,x.natAbs<2^b)->(∀x∈other,x.natAbs<2^b)->bR.natAbs<2^b->more.natAbs<2^b->(∃x∈FM.fV one bR other more,x≠0)->
   F [fE one,.int bR,fE other,.int more]=some (fE (FM.mixed one bR other more))/\∀x∈FM.mixed one bR other more,x.natAbs<2^(2*b+1):=by
 refine⟨_,cO ["one","much","other","more"] U λnd _ _ _ _ _ _ _ hr=>
  (ag (ax (ay K9 hr (a6 (cE (kj rfl (fw (tn:=["a","b"]) (fv:=["much","more"]) (js:=[1,3]) rfl (by decide +kernel) (by decide +kernel) rfl (by decide +kernel) (by decide +kernel) rfl
   (λx hx=>by((have eh:x="much"\/x="more":=(by simpa using hx));(rcases eh with rfl|rfl<;>exact⟨_,rfl⟩)))
   (λp hp=>by((have fc:p=(("much" : Str),(1:Nat))\/p=(("more" : Str),(3:Nat)):=(by simpa using hp));(rcases fc with rfl|rfl<;>exact⟨rfl,.inr (.inl rfl),.inl rfl,λz=>by cases z⟩)))) (mI T.zip (a6 (a5 0) (a6 (a5 2) a9))) (λ_ _ _ _=>(c8 (n:=2) rfl (aI (aq 0 (show(["a","b","much","more"]:List Str).Nodup by decide +kernel)) (aI (aq 1 (show(["a","b","much","more"]:List Str).Nodup by decide +kernel)) bQ)))) (λ_ _ _ _=>d9) (λ_ _ _ _=>(eI (bN (a5 2) (a5 0)) (bN (a5 3) (a5 1)))) (uh rfl rfl))) a9)))),?_⟩
 intro b one other bR more hb h9 h1 h2 h3 h4 cw;have bd:∀x∈FM.fV one bR other more,x.natAbs<2^(2*b+1):=λx hx=>by
  obtain⟨p,hp,q,hq,rfl⟩:=jv (show x∈zipWith (λa b=>bR*a+more*b) one other from hx);rw[show 2*b=b+b by omega];exact rz (cT h3 (h1 p hp)) (cT h4 (h2 q hq))
 have ml:(FM.fV one bR other more).length<=900:=by
  show(zipWith _ one other).length<=900;rw[length_zipWith];omega
 have eL:=hL (FM.fV one bR other more) ml (λx hx=>dW (bd x hx) (by omega)) cw;constructor
 ·have zl:(one.zip other).length<sizeLine:=by rw[length_zip];exact lt_of_lt_of_le (show min one.length other.length<1000 by omega) (sz (by decide))
  have ec:bV (jQ 2 (fF (aName 0) (fF (aName 1) lM))) fk (L3.f2 kC (L3.f2 jK (aN 2) (aN 0)) (L3.f2 jK (aN 3) (aN 1))) [none,none,some (.int bR),some (.int more)] ((one.zip other).map λz=>Dat.tuple [.int z.1,.int z.2])=some ((FM.fV one bR other more).map .int):=by
   have es:FM.fV one bR other more=(one.zip other).map λz=>bR*z.1+more*z.2:=by
    show zipWith _ one other=_;clear eL ml bd cw h1 h2 h9 zl;induction one generalizing other with
    |nil=>simp
    |cons x one ih=>
     cases other with
     |nil=>simp
     |cons y other=>rw[List.zipWith_cons_cons,zip_cons_cons,map_cons,ih]
   rw[es];refine de _ _ (by rw[length_map,length_map,length_map]) λi d o g1 g2=>?_;rw[getElem?_map]at g1 g2;rw[getElem?_map]at g2;cases hq:(one.zip other)[i]? with
   |none=>rw[hq]at g1;cases g1
   |some z=>
    rw[hq]at g1 g2;cases g1;cases g2;obtain⟨Pw,Pu⟩:=of_mem_zip (mem_of_getElem? hq);refine⟨[(0,.int z.1),(1,.int z.2)],rfl,?_⟩;have e1:=E5 (a:=bR) (b:=z.1) (dW h3 (by omega)) (dW (h1 z.1 Pw) (by omega));have e2:=E5 (a:=more) (b:=z.2) (dW h4 (by omega)) (dW (h2 z.2 Pu) (by omega));simp![e1,e2,c9]
  simp![fB,yr,length_map,zl,ec,eL];rfl
 ·intro x hx;obtain⟨y,hy,rfl⟩:=mem_map.mp (show x∈(FM.fV one bR other more).map (λx=>x.fdiv (FM.lowG (FM.fV one bR other more):Int))from hx);refine lt_of_le_of_lt ?_ (bd y hy);obtain⟨c,hc⟩:=FM.mM hy;obtain⟨x0,jh,h0⟩:=cw;have gp:=FM.tG jh h0;generalize (FM.lowG (FM.fV one bR other more))=g at hc gp;rw[hc,mul_comm,Int.mul_fdiv_cancel _ (by omega),natAbs_mul,natAbs_natCast];exact Nat.le_mul_of_pos_right _ gp
structure gY (m b:Nat) (rows:List FM.Row):Prop where
 len:∀r∈rows,r.2.length=m
 bd:∀r∈rows,∀x∈r.2,x.natAbs<2^b
theorem d6{r:FM.Row}{b:Nat}(h:∀x∈r.2,x.natAbs<2^b):(FM.ent r j).natAbs<2^b:=by
 by_cases c:FM.ent r j=0
 ·rw[c];exact pow_pos (by decide)
 ·exact h _ (FM.mem_getD c)
def tB:Option FM.Row->Dat
 |none=>.none
 |some r=>aK r
theorem Nn(T:TX P K mg)(U:FnAt K mg "equal_row" (top 16) ["rows","place"]):
  ∃F,Dn P w K mg base 41 "equal_row" ["rows","place"] 2 F/\∀(rows:List FM.Row) (j m:Nat),(∀r∈rows,r.2.length=m)->j<m->F [.list (rows.map aK),.int (j:Int)]=some (tB (FM.eM j rows)):=by
 refine⟨_,cO ["rows","place","row"] U λnd _ _ _ _ _ _ _ hr=>
  (ae (dI PassesOwn.never rfl (a5 0) (aq 2 nd)
  (ag (bc (cD (fT (cy hr (aj (a5 2) a8) aT) (f6 (dg hr (aj (aj (a5 2) a8) (a5 1)) a8)))) (ag (ax (a5 2))) aV)))
  (ag (ax cK))),?_⟩
 intro rows j m hl hj;refine bX ?_;simp!;refine(xI (l:=rows) aK (λΓ=>∃u,Γ=[~~~.list (rows.map aK),~~~.int (j:Int),u]) (λr=>decide (r.1=.eq/\FM.ent r j≠0)) aK (d:=.list (rows.map aK)) (fl:=λo=>.rt (tB o)) rfl rfl ⟨none,rfl⟩ ?_ (λ_=>rfl) ?_)
 ·rintro r hr Γ ⟨u,rfl⟩;refine⟨[(2,aK r)],rfl,?_⟩;dsimp!;have a1:=gT (l:=r.2) (j:=j) (by rw[hl r hr];exact hj);have a0:FM.ent r j=r.2.getD j 0:=rfl;by_cases c1:r.1=.eq
  ·have k1:=(i6 r.1).mpr c1;by_cases c2:r.2.getD j 0=0
   ·rw[if_neg (by rw[a0,decide_eq_true_eq];exact λz=>z.2 c2)];refine⟨[~~~.list (rows.map aK),~~~.int (j:Int),~~~(aK r)],?_,_,rfl⟩;dsimp![kJ,iG,a1,cS,fm,eq_true k1,eq_true c2]
   ·rw[if_pos (by rw[a0];exact decide_eq_true ⟨c1,c2⟩)];dsimp![kJ,iG,a1,cS,fm,eq_true k1,eq_false c2]
  ·have k1:¬bw r.1="=":=λz=>c1 ((i6 r.1).mp z);rw[if_neg (by simp[c1])];refine⟨[~~~.list (rows.map aK),~~~.int (j:Int),~~~(aK r)],?_,_,rfl⟩;dsimp![kJ,iG,a1,cS,fm,eq_false k1]
 ·rintro af ⟨u,rfl⟩;simp![tB]
abbrev Rn (Fm:List Dat->Option Dat):Prop:=∀(b:Nat) (one other:List Int) (bR more:Int),b<=4400000->one.length<=900->(∀x∈one,x.natAbs<2^b)->(∀x∈other,x.natAbs<2^b)->bR.natAbs<2^b->more.natAbs<2^b->(∃x∈FM.fV one bR other more,x≠0)->
   Fm [fE one,.int bR,fE other,.int more]=some (fE (FM.mixed one bR other more))/\∀x∈FM.mixed one bR other more,x.natAbs<2^(2*b+1)
abbrev Uu (F:List Dat->Option Dat):Prop:=∀(b m j:Nat) (r q:FM.Row),b<=4400000->m<=900->j<m->r.2.length=m->q.2.length=m->(∀x∈r.2,x.natAbs<2^b)->(∀x∈q.2,x.natAbs<2^b)->(∃x∈FM.fV r.2 ((FM.ent q j).natAbs:Int) q.2 (if 0<FM.ent q j then -FM.ent r j else FM.ent r j),x≠0)->
   F [aK r,aK q,.int (j:Int)]=some (aK (FM.wo q j r))/\∀x∈(FM.wo q j r).2,x.natAbs<2^(2*b+1)
theorem HB(T:TX P K mg){Fm:List Dat->Option Dat}(B0:Dn P w K mg base 43 "mixed" ["one","much","other","more"] 4 Fm)(hM:Rn Fm)(U:FnAt K mg "without" (top 17) ["row","equal","place"]):
  ∃F,Dn P w K mg base 44 "without" ["row","equal","place"] 3 F/\Uu F:=by
 refine⟨_,cO ["row","equal","place","part","more"] U λnd _ _ _ _ _ _ _ hr=>
  (ae (aC 3 nd (aj (aj (a5 1) a8) (a5 2)))
  (ae (aC 4 nd (gq (rQ (a5 3) a8) (dw (aj (aj (a5 0) a8) (a5 2))) (aj (aj (a5 0) a8) (a5 2))))
  (ag (ax (aX (k:=0) (a6 (aj (a5 0) a8) (a6 (ay B0 hr (a6 (aj (a5 0) a8) (a6 (mm T.abs (a6 (a5 3) a9)) (a6 (aj (a5 1) a8) (a6 (a5 4) a9) (hs:=aM)) (hs:=aZ)) (hs:=aM))) a9 (hs:=aZ)) (hs:=aM))))))),?_⟩
 intro b m j r q hb oG hj hr hq br bq cw;have z2:2<=sizeLine:=sz (by decide);have a1:=gT (l:=r.2) (j:=j) (by omega);have a2:=gT (l:=q.2) (j:=j) (by omega);have m1:(((FM.ent q j).natAbs:Int)).natAbs<2^b:=by rw[natAbs_natCast];exact d6 bq
 have m2:(if 0<FM.ent q j then -FM.ent r j else FM.ent r j).natAbs<2^b:=by
  split
  ·rw[natAbs_neg];exact d6 br
  ·exact d6 br
 obtain⟨e,Q0⟩:=hM b r.2 q.2 _ _ hb (by omega) br bq m1 m2 cw;refine⟨?_,Q0⟩;have Yk:q.2.getD j 0=FM.ent q j:=rfl;have Yj:r.2.getD j 0=FM.ent r j:=rfl;rw[Yj]at a1;rw[Yk]at a2;have er:aK (FM.wo q j r)=.tuple [.str (bw r.1),fE (FM.mixed r.2 ((FM.ent q j).natAbs:Int) q.2 (if 0<FM.ent q j then -FM.ent r j else FM.ent r j))]:=rfl;rw[er];by_cases c:0<FM.ent q j
 ·rw[if_pos c]at e ⊢;dsimp![kJ,iG,a1,a2,gS,jP,eq_true c,e,z2]
 ·rw[if_neg c]at e ⊢;dsimp![kJ,iG,a1,a2,gS,jP,eq_false c,e,z2]
abbrev UR (F:List Dat->Option Dat):Prop:=∀(b m j:Nat) (u l:FM.Row),b<=4400000->m<=900->j<m->u.2.length=m->l.2.length=m->(∀x∈u.2,x.natAbs<2^b)->(∀x∈l.2,x.natAbs<2^b)->(∃x∈FM.fV u.2 (-FM.ent l j) l.2 (FM.ent u j),x≠0)->
   F [aK u,aK l,.int (j:Int)]=some (aK (FM.joined j u l))/\∀x∈(FM.joined j u l).2,x.natAbs<2^(2*b+1)
theorem JR(T:TX P K mg){Fm:List Dat->Option Dat}(B0:Dn P w K mg base 43 "mixed" ["one","much","other","more"] 4 Fm)(hM:Rn Fm)(U:FnAt K mg "joined" (top 18) ["upper","lower","place"]):
  ∃F,Dn P w K mg base 44 "joined" ["upper","lower","place"] 3 F/\UR F:=by
 refine⟨_,cO ["upper","lower","place","kind"] U λnd _ _ _ _ _ _ _ hr=>
  (ae (aC 3 nd (gq (C0 aT (aX (k:=0) (a6 (aj (a5 0) a8) (a6 (aj (a5 1) a8) a9 (hs:=aM)) (hs:=aM)))) aT aT))
  (ag (ax (aX (k:=0) (a6 (a5 3) (a6 (ay B0 hr (a6 (aj (a5 0) a8) (a6 (dw (aj (aj (a5 1) a8) (a5 2))) (a6 (aj (a5 1) a8) (a6 (aj (aj (a5 0) a8) (a5 2)) a9 (hs:=aM)) (hs:=aM)) (hs:=gQ)) (hs:=aM))) a9 (hs:=aZ))))))),?_⟩
 intro b m j u l hb oG hj hu hl bu bl cw;have z2:2<=sizeLine:=sz (by decide);have a1:=gT (l:=u.2) (j:=j) (by omega);have a2:=gT (l:=l.2) (j:=j) (by omega);obtain⟨e,Q0⟩:=hM b u.2 l.2 (-FM.ent l j) (FM.ent u j) hb (by omega) bu bl (by rw[natAbs_neg];exact d6 bl) (d6 bu) cw;refine⟨?_,Q0⟩;have Yi:u.2.getD j 0=FM.ent u j:=rfl;have Yl:l.2.getD j 0=FM.ent l j:=rfl;rw[Yi]at a1;rw[Yl]at a2;have er:aK (FM.joined j u l)=.tuple [.str (bw (if u.1=.lt\/l.1=.lt then .lt else .le)),fE (FM.mixed u.2 (-FM.ent l j) l.2 (FM.ent u j))]:=rfl;rw[er];have ei:inD (.str "<") (.tuple [.str (bw u.1),.str (bw l.1)])=some (.bool (decide (u.1=.lt\/l.1=.lt))):=by
  cases zS:u.1<;>cases zY:l.1<;>rfl
 by_cases c:u.1=.lt\/l.1=.lt
 ·rw[decide_eq_true c]at ei;rw[if_pos c];have ks:bw .lt="<":=rfl;dsimp![kJ,iG,a1,a2,ei,e,z2,ks]
 ·rw[decide_eq_false c]at ei;rw[if_neg c];have ks:bw .le="<=":=rfl;dsimp![kJ,iG,a1,a2,ei,e,z2,ks]
variable {α:Type}
theorem jc(g:α->Dat)(xs:List α):kU [.list (xs.map g)]=some (.int xs.length):=by show some (Dat.int ((xs.map g).length:Nat))=_;rw[length_map]
abbrev nat (p:Nat):Dat:=.int (p:Int)
abbrev V0 (F:List Dat->Option Dat):Prop:=∀(m:Nat) (aE:List Nat) (u l:FM.Row),aE.length<=900->u.2.length=m->l.2.length=m->(∀p∈aE,p<m)->F [aK u,aK l,.list (aE.map nat)]=some (.int (FM.drawn aE u l:Nat))
theorem Nq(T:TX P K mg)(U:FnAt K mg "drawn_on" (top 19) ["one","other","weighed"]):
  ∃F,Dn P w K mg base 41 "drawn_on" ["one","other","weighed"] 3 F/\V0 F:=by
 refine⟨_,cO ["one","other","weighed"] U λnd _ _ _ _ _ _ _ hr=>
  (ag (ax (cX T.len (a6 (cE (gn rfl (fw (tn:=["place"]) (fv:=["other","one"]) (js:=[1,0]) rfl (by decide +kernel) (by decide +kernel) rfl (by decide +kernel) (by decide +kernel) rfl
   (λx hx=>by((have eh:x="other"\/x="one":=(by simpa using hx));(rcases eh with rfl|rfl<;>exact⟨_,rfl⟩)))
   (λp hp=>by((have fc:p=(("other" : Str),(1:Nat))\/p=(("one" : Str),(0:Nat)):=(by simpa using hp));(rcases fc with rfl|rfl<;>exact⟨rfl,.inr (.inl rfl),.inl rfl,λz=>by cases z⟩)))) (a5 2) (λ_ _ _ _=>(aq 0 (show(["place","other","one"]:List Str).Nodup by decide +kernel))) (λ_ _ _ _=>(jS (cD (cW (dg hr (aj (aj (a5 2) a8) (a5 0)) a8) (d7 (dg hr (aj (aj (a5 1) a8) (a5 0)) a8)))))) (λ_ _ _ _=>(a5 0)) (cV rfl))) a9)))),?_⟩
 intro m aE u l hw hu hl hp;have zl:aE.length<sizeLine:=lt_of_lt_of_le (show aE.length<1000 by omega) (sz (by decide));have ec:bV (aName 0) (jo (bS (L3.f2 gK (L3.f2 bA (L3.f2 bA (aN 2) (fC (.int 1))) (aN 0)) (fC (.int 0)))) (bS (L3.f2 gK (L3.f2 bA (L3.f2 bA (aN 1) (fC (.int 1))) (aN 0)) (fC (.int 0))))) (aN 0) [none,some (aK l),some (aK u)] (aE.map nat)=some ((aE.filter λp=>decide (FM.ent u p≠0\/FM.ent l p≠0)).map nat):=by
  refine i9 nat nat _ aE λp GN=>⟨[(0,nat p)],rfl,?_,λ_=>rfl⟩;have a1:bA (fE u.2) (nat p)=some (.int (FM.ent u p)):=gT (by rw[hu];exact hp p GN);have a2:bA (fE l.2) (nat p)=some (.int (FM.ent l p)):=gT (by rw[hl];exact hp p GN);by_cases c1:FM.ent u p=0
  ·by_cases c2:FM.ent l p=0
   ·rw[decide_eq_false (by rw[c1,c2];simp)];dsimp![iG,a1,a2,fm,eq_true c1,eq_true c2]
   ·rw[decide_eq_true (.inr c2)];dsimp![iG,a1,a2,fm,eq_true c1,eq_false c2]
  ·rw[decide_eq_true (.inl c1)];dsimp![iG,a1,a2,fm,eq_false c1]
 have le:=jc nat (aE.filter λp=>decide (FM.ent u p≠0\/FM.ent l p≠0));simp![length_map,zl,ec,le];rfl
abbrev rk (r:FM.Row):RK:=(bw r.1,r.2)
theorem Oq{a b:FM.Row}(h:rk a=rk b):a=b:=BQ (congrArg dU h)
abbrev kO (w:World) (ks:List FM.Row):Slot:=.obj (jy w (ks.map rk)) ((ks.map rk).map dU)
theorem Mq(ks:List FM.Row)(r:FM.Row):hZ (ks.map rk) (rk r)=(FM.ins ks r).map rk:=by
 unfold hZ FM.ins;have e:rk r∈ks.map rk↔r∈ks:=⟨λh=>by obtain⟨x,hx,e⟩:=mem_map.mp h;rw[<- Oq e];exact hx,λh=>mem_map.mpr ⟨r,h,rfl⟩⟩;by_cases c:r∈ks
 ·rw[if_pos (e.mpr c),if_pos c]
 ·rw[if_neg (λz=>c (e.mp z)),if_neg c,map_append];rfl
theorem uP(k:FM.Kn):PyData.strOk (bw k)=true:=by cases k<;>decide +kernel
variable {i:Nat} {Γ:aw}
theorem FU{g:ar->Option Dat}{ks:List FM.Row}{r:FM.Row}(hi:Γ[i]?=some (some (kO w ks)))(hf:g (bj Γ)=some (aK r))(hz:ks.length<sizeLine):uA w i g Γ=some (.nx (Γ.set i (some (kO w (FM.ins ks r))))):=by
 have:=IE (k:=rk r) hi hf (λk hk=>by obtain⟨x,_,rfl⟩:=mem_map.mp hk;exact uP x.1) (uP r.1) (by rw[length_map];exact hz);rw[Mq]at this;exact this
theorem oF(ks:List FM.Row)(r:FM.Row):(FM.ins ks r).length<=ks.length+1:=by
 unfold FM.ins;split
 ·omega
 ·rw[length_append];exact le_refl _
def UG (F:List Dat->Option Dat):Prop:=∀(b m j most:Nat) (aE:List Nat) (rows:List FM.Row),b<=4400000->m<=900->j<m->gY m b rows->aE.length<=900->(∀p∈aE,p<m)->
   (∀u∈rows,∀l∈rows,0<FM.ent u j->FM.ent l j<0->∃x∈FM.fV u.2 (-FM.ent l j) l.2 (FM.ent u j),x≠0)->rows.length+(rows.filter λr=>decide (0<FM.ent r j)).length*(rows.filter λr=>decide (FM.ent r j<0)).length<sizeLine->
   F [.list (rows.map aK),.int (j:Int),.list (aE.map nat),.int (most:Int)]=some (.list ((FM.paired j aE most rows).map aK))
theorem me{α β:Type}(p:β->Bool)(h:α->β->α):∀(l:List β) (s:α),l.foldl (λs x=>if p x=true then h s x else s) s=(l.filter p).foldl h s
 |[],s=>rfl
 |x::l,s=>by
  rw[foldl_cons,filter_cons];by_cases c:p x=true
  ·rw[if_pos c,if_pos c,foldl_cons];exact me p h l _
  ·rw[if_neg c,if_neg c];exact me p h l _
theorem JL(T:TX P K mg){Fd Fj:List Dat->Option Dat}(Ip:Dn P w K mg base 44 "drawn_on" ["one","other","weighed"] 3 Fd)(hD:V0 Fd)(NF:Dn P w K mg base 44 "joined" ["upper","lower","place"] 3 Fj)(hJ:UR Fj)(U:FnAt K mg "paired" (top 20) ["rows","place","weighed","most"]):
  ∃F,Dn P w K mg base 45 "paired" ["rows","place","weighed","most"] 4 F/\UG F:=by
 refine⟨_,cO ["rows","place","weighed","most","kept","row","lowers","upper","lower"] U λnd _ _ _ _ _ _ _ hr=>
  (ae (FQ w 4 nd)
  (ae (dI PassesOwn.never rfl (a5 0) (aq 5 nd)
  (ag (bc (cy hr (aj (aj (a5 5) a8) (a5 1)) a8) (ag (xk w 4 hr cZ (a5 5))) aV)))
  (ae (qx 6 nd rfl (fw (tn:=["row"]) (fv:=["place"]) (js:=[1]) rfl (by decide +kernel) (by decide +kernel) rfl (by decide +kernel) (by decide +kernel) rfl
   (λx hx=>by((have eh:x="place":=(by simpa using hx));(rcases eh with rfl<;>exact⟨_,rfl⟩)))
   (λp hp=>by((have fc:p=(("place" : Str),(1:Nat)):=(by simpa using hp));(rcases fc with rfl<;>exact⟨rfl,.inr (.inl rfl),.inl rfl,λz=>by cases z⟩)))) (a5 0) (λ_ _ _ _=>(aq 0 (show(["row","place"]:List Str).Nodup by decide +kernel))) (λ_ _ _ _=>(jS (ox (aj (aj (a5 0) a8) (a5 1)) a8))) (λ_ _ _ _=>(a5 0)) (cV rfl))
  (ae (dI PassesOwn.never rfl (cE (gn rfl (fw (tn:=["row"]) (fv:=["place"]) (js:=[1]) rfl (by decide +kernel) (by decide +kernel) rfl (by decide +kernel) (by decide +kernel) rfl
   (λx hx=>by((have eh:x="place":=(by simpa using hx));(rcases eh with rfl<;>exact⟨_,rfl⟩)))
   (λp hp=>by((have fc:p=(("place" : Str),(1:Nat)):=(by simpa using hp));(rcases fc with rfl<;>exact⟨rfl,.inr (.inl rfl),.inl rfl,λz=>by cases z⟩)))) (a5 0) (λ_ _ _ _=>(aq 0 (show(["row","place"]:List Str).Nodup by decide +kernel))) (λ_ _ _ _=>(jS (rQ (aj (aj (a5 0) a8) (a5 1)) a8))) (λ_ _ _ _=>(a5 0)) (cV rfl))) (aq 7 nd)
  (ag (dI PassesOwn.never rfl (a5 6) (aq 8 nd)
  (ag (bc (Ml (ay Ip hr (a6 (a5 7) (a6 (a5 8) (a6 (a5 2) a9)))) (a5 3)) (ag (xk w 4 hr cZ (ay NF hr (a6 (a5 7) (a6 (a5 8) (a6 (a5 1) a9)))))) aV)))))
  (ag (FO w 4 hr T.list)))))),?_⟩
 intro b m j most aE rows hb oG hj hR hw Py Xd hN;have ai:∀r∈rows,bA (fE r.2) (.int (j:Int))=some (.int (FM.ent r j)):=λr hr=>gT (by rw[hR.len r hr];exact hj);have zr:rows.length<sizeLine:=by omega
 generalize Jl:(rows.filter λr=>decide (0<FM.ent r j))=ups at hN;generalize Ef:(rows.filter λr=>decide (FM.ent r j<0))=lows at hN;refine bX ?_;simp!;rw[aA (af:=[~~~.list (rows.map aK),~~~.int (j:Int),~~~.list (aE.map nat),~~~.int (most:Int),some (kO w []),none,none,none,none]) rfl]

 refine gm (I:=_) (gX (l:=rows) (s:=[]) aK (fun(ks:List FM.Row) Γ=>∃u,Γ=[~~~.list (rows.map aK),~~~.int (j:Int),~~~.list (aE.map nat),~~~.int (most:Int),some (kO w ks),u,none,none,none]) (λks l=>ks.length+l.length<=rows.length/\∀r∈l,r∈rows) (λks r=>if decide (FM.ent r j=0)=true then FM.ins ks r else ks) (d:=.list (rows.map aK)) rfl rfl ⟨by simp,λ_ h=>h⟩ ⟨none,rfl⟩ ?_) ?_
 ·rintro ks r l Γ ⟨hq,iJ⟩ ⟨u,rfl⟩;rw[length_cons]at hq;have a1:=ai r (iJ r mem_cons_self);refine⟨[(5,aK r)],rfl,?_⟩;dsimp!;by_cases c:FM.ent r j=0
  ·refine⟨[~~~.list (rows.map aK),~~~.int (j:Int),~~~.list (aE.map nat),~~~.int (most:Int),some (kO w (FM.ins ks r)),~~~(aK r),none,none,none],?_,⟨_,by rw[if_pos (decide_eq_true c)]⟩,?_,λx hx=>iJ x (mem_cons_of_mem _ hx)⟩
   ·rw[nt (by dsimp![iG,a1,fq,eq_true c])];exact FU rfl rfl (by omega)
   ·rw[if_pos (decide_eq_true c)];have:=oF ks r;omega
  ·refine⟨[~~~.list (rows.map aK),~~~.int (j:Int),~~~.list (aE.map nat),~~~.int (most:Int),some (kO w ks),~~~(aK r),none,none,none],?_,⟨_,by rw[if_neg (by rw[decide_eq_true_eq];exact c)]⟩,?_,λx hx=>iJ x (mem_cons_of_mem _ hx)⟩
   ·rw[nv (by dsimp![iG,a1,fq,eq_false c])];rfl
   ·rw[if_neg (by rw[decide_eq_true_eq];exact c)];omega
 rintro Γ ⟨u,rfl⟩;rw[me];generalize TU:(rows.filter λr=>decide (FM.ent r j=0)).foldl FM.ins []=KZ;have hk0l:KZ.length<=rows.length:=by
  rw[<- TU];have:∀(l s:List FM.Row),(l.foldl FM.ins s).length<=s.length+l.length:=λl=>by
   induction l with
   |nil=>intro s;exact le_refl _
   |cons x l ih=>intro s;rw[foldl_cons,length_cons];have:=ih (FM.ins s x);have:=oF s x;omega
  have h1:=this (rows.filter λr=>decide (FM.ent r j=0)) [];have h2:=length_filter_le (λr=>decide (FM.ent r j=0)) rows;simp only[length_nil,zero_add]at h1;omega
 have Yo:bV (aName 0) (bS (L3.f2 Gx (L3.f2 bA (L3.f2 bA (aN 0) (fC (.int 1))) (aN 1)) (fC (.int 0)))) (aN 0) [none,some (.int (j:Int))] (rows.map aK)=some (lows.map aK):=by
  rw[<- Ef];refine i9 aK aK _ rows λr hr=>⟨[(0,aK r)],rfl,?_,λ_=>rfl⟩;have a1:=ai r hr;dsimp![iG,a1,dh]
 have Yn:bV (aName 0) (bS (L3.f2 Hb (L3.f2 bA (L3.f2 bA (aN 0) (fC (.int 1))) (aN 1)) (fC (.int 0)))) (aN 0) [none,some (.int (j:Int))] (rows.map aK)=some (ups.map aK):=by
  rw[<- Jl];refine i9 aK aK _ rows λr hr=>⟨[(0,aK r)],rfl,?_,λ_=>rfl⟩;have a1:=ai r hr;dsimp![iG,a1,gS]
 rw[aA (af:=[~~~.list (rows.map aK),~~~.int (j:Int),~~~.list (aE.map nat),~~~.int (most:Int),some (kO w KZ),u,~~~.list (lows.map aK),none,none]) (by simp![lV,length_map,zr,Yo])];have VP:∀r∈ups,r∈rows/\0<FM.ent r j:=λr hr=>by rw[<- Jl]at hr;exact⟨(mem_filter.mp hr).1,of_decide_eq_true (mem_filter.mp hr).2⟩
 have VW:∀r∈lows,r∈rows/\FM.ent r j<0:=λr hr=>by rw[<- Ef]at hr;exact⟨(mem_filter.mp hr).1,of_decide_eq_true (mem_filter.mp hr).2⟩
 refine gm (I:=_) (gX (l:=ups) (s:=KZ) aK (fun(ks:List FM.Row) Γ=>∃x7 x8,Γ=[~~~.list (rows.map aK),~~~.int (j:Int),~~~.list (aE.map nat),~~~.int (most:Int),some (kO w ks),u,~~~.list (lows.map aK),x7,x8]) (λks l=>ks.length+l.length*lows.length<sizeLine/\∀r∈l,r∈ups) (λks up=>lows.foldl (λks lo=>if decide (FM.drawn aE up lo<=most)=true then FM.ins ks (FM.joined j up lo)else ks) ks) (d:=.list (ups.map aK)) (by simp![length_map,zr,Yn]) rfl ⟨by omega,λ_ h=>h⟩ ⟨none,none,rfl⟩ ?_) ?_
 ·rintro ks up l Γ ⟨hq,iJ⟩ ⟨x7,x8,rfl⟩;rw[length_cons,succ_mul]at hq;obtain⟨zS,PB⟩:=VP up (iJ up mem_cons_self);refine⟨[(7,aK up)],rfl,?_⟩;dsimp!;refine MX (gX (l:=lows) (s:=ks) aK (fun(xu:List FM.Row) Γ=>∃x8,Γ=[~~~.list (rows.map aK),~~~.int (j:Int),~~~.list (aE.map nat),~~~.int (most:Int),some (kO w xu),u,~~~.list (lows.map aK),~~~(aK up),x8]/\xu.length<=ks.length+lows.length) (λxu l=>xu.length+l.length<=ks.length+lows.length/\∀r∈l,r∈lows) (λks lo=>if decide (FM.drawn aE up lo<=most)=true then FM.ins ks (FM.joined j up lo)else ks) (d:=.list (lows.map aK)) rfl rfl ⟨le_refl _,λ_ h=>h⟩ ⟨x8,rfl,by omega⟩ ?_) ?_
  ·rintro xu lo l' Γ ⟨pV,w4⟩ ⟨x8,rfl,hk⟩;rw[length_cons]at pV;obtain⟨zY,sQ⟩:=VW lo (w4 lo mem_cons_self);refine⟨[(8,aK lo)],rfl,?_⟩;dsimp!;have ed:=hD m aE up lo hw (hR.len up zS) (hR.len lo zY) Py;obtain⟨ej,_⟩:=hJ b m j up lo hb oG hj (hR.len up zS) (hR.len lo zY) (hR.bd up zS) (hR.bd lo zY) (Xd up zS lo zY PB sQ);by_cases c:FM.drawn aE up lo<=most
   ·have c':((FM.drawn aE up lo:Nat):Int)<=(most:Int):=by omega
    have Ld:=oF xu (FM.joined j up lo);refine⟨[~~~.list (rows.map aK),~~~.int (j:Int),~~~.list (aE.map nat),~~~.int (most:Int),some (kO w (FM.ins xu (FM.joined j up lo))),u,~~~.list (lows.map aK),~~~(aK up),~~~(aK lo)],?_,⟨_,by rw[if_pos (decide_eq_true c)],by rw[if_pos (decide_eq_true c)];omega⟩,by rw[if_pos (decide_eq_true c)];omega,λx hx=>w4 x (mem_cons_of_mem _ hx)⟩;rw[nt (by simp![ed,Cr,eq_true c'])];exact FU rfl (by simp![ej]) (by omega)
   ·have c':¬((FM.drawn aE up lo:Nat):Int)<=(most:Int):=by omega
    refine⟨[~~~.list (rows.map aK),~~~.int (j:Int),~~~.list (aE.map nat),~~~.int (most:Int),some (kO w xu),u,~~~.list (lows.map aK),~~~(aK up),~~~(aK lo)],?_,⟨_,by rw[if_neg (by rw[decide_eq_true_eq];exact c)],by rw[if_neg (by rw[decide_eq_true_eq];exact c)];omega⟩,by rw[if_neg (by rw[decide_eq_true_eq];exact c)];omega,λx hx=>w4 x (mem_cons_of_mem _ hx)⟩;rw[nv (by simp![ed,Cr,eq_false c'])];rfl
  ·rintro iP ⟨x8',rfl,zZ⟩;exact⟨⟨_,_,rfl⟩,by omega,λx hx=>iJ x (mem_cons_of_mem _ hx)⟩
 ·rintro af ⟨x7,x8,rfl⟩;have er:ups.foldl (λks up=>lows.foldl (λks lo=>if decide (FM.drawn aE up lo<=most)=true then FM.ins ks (FM.joined j up lo)else ks) ks) KZ=FM.paired j aE most rows:=by
   unfold FM.paired FM.pairsOf;rw[List.foldl_append,TU,Jl,Ef,List.foldl_flatMap];congr 1
   funext ks up
   rw[me,List.foldl_map]
  rw[er];have:=IC (w:=w) (i:=4) (Γ:=[~~~.list (rows.map aK),~~~.int (j:Int),~~~.list (aE.map nat),~~~.int (most:Int),some (kO w (FM.paired j aE most rows)),u,~~~.list (lows.map aK),x7,x8]) rfl;rw[map_map]at this;exact this
def fu (qs:List Rat):Nat:=qs.foldr (λq m=>q.den*m) 1
theorem Df:∀qs:List Rat,0<fu qs
 |[]=>Nat.one_pos
 |q::qs=>Nat.mul_pos q.den_pos (Df qs)
theorem zC(a b:Nat):((a:Int)).fdiv (b:Int)=((a/b:Nat):Int):=by
 rw[Int.fdiv_eq_ediv_of_nonneg _ (by omega),Int.natCast_ediv]
theorem Pc(m d:Nat):((m:Int)*(d:Int)).fdiv ((Nat.gcd m d:Nat):Int)=((lcm m d:Nat):Int):=by
 rw[<- natCast_mul,zC];rfl
theorem GC(m d:Nat)(h:0<m)(h2:0<d):lcm m d<=m*d:=le_of_dvd (Nat.mul_pos h h2) (Nat.lcm_dvd (Nat.dvd_mul_right m d) (Nat.dvd_mul_left d m))
abbrev Uv (F:List Dat->Option Dat):Prop:=∀(c e:Nat) (k:FM.Kn) (qs:List Rat),qs.length<=900->c<=4000000->e<=4000000->(∀q∈qs,SR c q)->fu qs<2^e->F [.str (bw k),.list (qs.map qD)]=some (aK (FM.whole k qs))/\∀x∈(FM.whole k qs).2,x.natAbs<2^(c+e)
theorem vZ:∀(qs:List Rat) (m:Nat),0<m->qs.foldl (λm q=>lcm m q.den) m<=m*fu qs
 |[],m,_=>by show m<=m*1;omega
 |q::qs,m,h=>by
  have p:=q.den_pos;have h1:=vZ qs (lcm m q.den) (Nat.lcm_pos h p);refine le_trans h1 ?_;show _<=m*(q.den*fu qs);rw[<- Nat.mul_assoc];exact Nat.mul_le_mul_right _ (GC m q.den h p)
theorem N5(T:TX P K mg)(gF:Dn P w K mg base 41 "common_divisor" ["a","b"] 2 pR)(U:FnAt K mg "whole_row" (top 13) ["kind","fractions"]):
  ∃F,Dn P w K mg base 42 "whole_row" ["kind","fractions"] 2 F/\Uv F:=by
 refine⟨_,cO ["kind","fractions","multiple","n","d"] U λnd _ _ _ _ _ _ _ hr=>
  (ae (aC 2 nd a8)
  (ae (dI PassesOwn.never rfl (a5 1) (c8 (n:=2) rfl (aI (aq 3 nd) (aI (aq 4 nd) bQ)))
  (ag (aC 2 nd (gu T.seer hr (bN (a5 2) (a5 4)) (ay gF hr (a6 (a5 2) (a6 (a5 4) a9)))))))
  (ag (ax (aX (k:=0) (a6 (a5 0) (a6 (gV T.tuple (a6 (cE (kj rfl (fw (tn:=["n","d"]) (fv:=["multiple"]) (js:=[2]) rfl (by decide +kernel) (by decide +kernel) rfl (by decide +kernel) (by decide +kernel) rfl
   (λx hx=>by((have eh:x="multiple":=(by simpa using hx));(rcases eh with rfl<;>exact⟨_,rfl⟩)))
   (λp hp=>by((have fc:p=(("multiple" : Str),(2:Nat)):=(by simpa using hp));(rcases fc with rfl<;>exact⟨rfl,.inr (.inl rfl),.inl rfl,λz=>by cases z⟩)))) (tq (a5 1)) (λ_ _ _ _=>(c8 (n:=2) rfl (aI (aq 0 (show(["n","d","multiple"]:List Str).Nodup by decide +kernel)) (aI (aq 1 (show(["n","d","multiple"]:List Str).Nodup by decide +kernel)) bQ)))) (λ_ _ _ _=>d9) (λ_ _ _ _=>(bN (a5 0) (gu T.seer hr (a5 2) (a5 1)))) (uh rfl rfl))) a9)) a9 (hs:=aZ)))))))),?_⟩
 intro c e k qs hl hc he hq hP;have z2:2<=sizeLine:=sz (by decide);have zl:qs.length<sizeLine:=lt_of_lt_of_le (show qs.length<1000 by omega) (sz (by decide));have hL:FM.iB qs<2^e:=by
  have:=vZ qs 1 (by decide);rw[one_mul]at this;exact lt_of_le_of_lt this hP
 have hLp:0<FM.iB qs:=FM.tK qs;constructor
 ·refine bX ?_;simp!;rw[aA (af:=[~~~.str (bw k),~~~.list (qs.map qD),~~~.int 1,none,none]) (by simp![])];refine gm (I:=_) (gX (l:=qs) (s:=1) qD (fun(m:Nat) Γ=>∃x3 x4,Γ=[~~~.str (bw k),~~~.list (qs.map qD),~~~.int (m:Int),x3,x4]) (λm l=>0<m/\m*fu l<2^e/\∀q∈l,q∈qs) (λm q=>lcm m q.den) (d:=.list (qs.map qD)) rfl rfl ⟨by decide,by rw[one_mul];exact hP,λ_ h=>h⟩ ⟨none,none,rfl⟩ ?_) ?_
  ·rintro m q l Γ ⟨h1,h2,h3⟩ ⟨x3,x4,rfl⟩;have p:=q.den_pos;have Ue:m*q.den*fu l<2^e:=by rw[Nat.mul_assoc];exact h2
   have lp:=Df l;have TN:m*q.den<2^e:=lt_of_le_of_lt (Nat.le_mul_of_pos_right _ lp) Ue;have xB:m<2^e:=lt_of_le_of_lt (Nat.le_mul_of_pos_right _ p) TN;have TY:q.den<2^e:=lt_of_le_of_lt (Nat.le_mul_of_pos_left _ h1) TN;refine⟨[(3,.int q.num),(4,.int (q.den:Int))],rfl,?_⟩;dsimp!;have e1:pR [.int (m:Int),.int (q.den:Int)]=some (.int ((Nat.gcd m q.den:Nat):Int)):=by
    show(if 0<=(m:Int)/\0<=(q.den:Int)then some (Dat.int (gcd (m:Int) (q.den:Int)))else none)=_;rw[if_pos ⟨by omega,by omega⟩];rfl
   have gp:0<Nat.gcd m q.den:=Nat.gcd_pos_of_pos_left _ h1;have e2:=E5 (a:=(m:Int)) (b:=(q.den:Int)) (by rw[natAbs_natCast];exact dW xB (by omega)) (by rw[natAbs_natCast];exact dW TY (by omega));have e3:=iZ (a:=(m:Int)*(q.den:Int)) (b:=((Nat.gcd m q.den:Nat):Int)) (by omega) (lt_trans (log2_small (k:=4000000) (by decide) (by rw[natAbs_natCast];exact lt_of_le_of_lt (Nat.gcd_le_left _ h1) (dW xB he))) (by decide));rw[Pc]at e3;refine⟨[~~~.str (bw k),~~~.list (qs.map qD),~~~.int ((lcm m q.den:Nat):Int),~~~.int q.num,~~~.int (q.den:Int)],by simp![e1,e2,e3],⟨_,_,rfl⟩,Nat.lcm_pos h1 p,lt_of_le_of_lt (Nat.mul_le_mul_right _ (GC m q.den h1 p)) Ue,λx hx=>h3 x (mem_cons_of_mem _ hx)⟩
  ·rintro af ⟨x3,x4,rfl⟩;have eL:(qs.foldl (λm q=>lcm m q.den) 1:Nat)=FM.iB qs:=rfl;rw[eL];have ec:bV (jQ 2 (fF (aName 0) (fF (aName 1) lM))) fk (L3.f2 jK (aN 0) (L3.f2 si (aN 2) (aN 1))) [none,none,some (.int (FM.iB qs:Int))] (qs.map qD)=some ((FM.whole k qs).2.map .int):=by
    refine de _ _ (by rw[length_map,length_map];show _=(qs.map _).length;rw[length_map]) λi d o g1 g2=>?_;unfold FM.whole at g2;rw[getElem?_map]at g1 g2;rw[getElem?_map]at g2;cases hz:qs[i]? with
    |none=>rw[hz]at g1;cases g1
    |some q=>
     rw[hz]at g1 g2;cases g1;cases g2;have sN:=hq q (mem_of_getElem? hz);have p:=q.den_pos;refine⟨[(0,.int q.num),(1,.int (q.den:Int))],rfl,?_⟩;have e3:=iZ (a:=(FM.iB qs:Int)) (b:=(q.den:Int)) (by omega) (lt_trans (log2_small (k:=4000000) (by decide) (by rw[natAbs_natCast];exact dW sN.ld hc)) (by decide));rw[zC]at e3;have e2:=E5 (a:=q.num) (b:=((FM.iB qs/q.den:Nat):Int)) (dW sN.ln (by omega)) (by rw[natAbs_natCast];exact lt_of_le_of_lt (Nat.div_le_self _ _) (dW hL (by omega)));simp![e3,e2]
   simp![fB,length_map,zl,ec,z2];rfl
 ·intro x hx;obtain⟨q,sN,rfl⟩:=mem_map.mp (show x∈qs.map (λq=>q.num*((FM.iB qs/q.den:Nat):Int))from hx);exact cT (hq q sN).ln (by rw[natAbs_natCast];exact lt_of_le_of_lt (Nat.div_le_self _ _) hL)
abbrev ao (o:FM.Ol):Dat:=.tuple [.str (bw o.1),.tuple (o.2.1.map qD),qD o.2.2]
def eN:Nat->List FM.Ol->List (Nat×FM.Ol)
 |_,[]=>[]
 |i,o::os=>(i,o)::eN (i+1) os
abbrev CZ (p:Nat×FM.Ol):Dat:=.tuple [.int (p.1:Int),ao p.2]
theorem En:∀(os:List FM.Ol) (i:Nat),kz i (os.map ao)=(eN i os).map CZ
 |[],i=>rfl
 |o::os,i=>by rw[map_cons,kz,eN,map_cons,En os (i+1)]
theorem Aq:∀(os:List FM.Ol) (i:Nat),(eN i os).length=os.length
 |[],i=>rfl
 |o::os,i=>by rw[eN,length_cons,length_cons,Aq os]
theorem Am(k:Nat):∀(os:List FM.Ol) (i:Nat),(FM.cB k i os).length=os.length
 |[],i=>rfl
 |o::os,i=>by rw[FM.cB,length_cons,length_cons,Am k os]
theorem CY(k:Nat):∀(os:List FM.Ol) (i:Nat) (acc:List FM.Row),(eN i os).foldl (λacc (p:Nat×FM.Ol)=>acc++[FM.whole p.2.1 (p.2.2.1++[0,p.2.2.2]++FM.dD k p.1)]) acc=acc++FM.cB k i os
 |[],i,acc=>by show acc=acc++[];rw[append_nil]
 |o::os,i,acc=>by
  rw[eN,foldl_cons,CY k os (i+1),FM.cB,append_assoc];rfl
theorem Hs:∀{os:List FM.Ol} {i:Nat} {p:Nat×FM.Ol},p∈eN i os->p.2∈os/\p.1<i+os.length
 |[],i,p,h=>by simp[eN]at h
 |o::os,i,p,h=>by
  rw[eN]at h;rcases mem_cons.mp h with e|h
  ·rw[e];exact⟨mem_cons_self,by rw[length_cons];omega⟩
  ·obtain⟨h1,h2⟩:=Hs h;exact⟨mem_cons_of_mem _ h1,by rw[length_cons];omega⟩
theorem vj(a b:List Rat)(h:a.length+b.length<=1000):jN (.list (a.map qD)) (.list (b.map qD))=some (.list ((a++b).map qD)):=by
 show(if(a.map qD).length+(b.map qD).length<=sizeLine then some (Dat.list (a.map qD++b.map qD))else none)=_;rw[if_pos (by rw[length_map,length_map];exact sz h),map_append]
theorem Lx{α:Type}(d:α):∀m:Nat,(List.replicate m [d]).flatten=List.replicate m d
 |0=>rfl
 |m+1=>by rw[replicate_succ,flatten_cons,Lx d m,replicate_succ];rfl
theorem Oi(j:Int)(h1:0<=j)(h2:j<=2000000):jI [.int j]=some (gH 0 j.toNat):=if_pos ⟨by omega,by omega⟩
theorem DJ(n:Nat)(h:n<=2000000):jI [.int (n:Int)]=some (gH 0 n):=by
 have:=Oi (n:Int) (by omega) (by omega);rw[toNat_natCast]at this;exact this
variable {ρ:ar}
theorem yP{fb:ar->Option Dat}(h:fb ρ=some (.int n))(hn:n<=100):pI (nJ (bh (fC (.tuple [.int 0,.int 1])) cG)) fb ρ=some ((List.replicate n (0:Rat)).map qD):=by
 have z1:1<=sizeLine:=sz (by decide);have zm:1*((n:Int).toNat)<=sizeLine:=by rw[one_mul,toNat_natCast];exact sz (by omega)
 have e1:nJ (bh (fC (.tuple [.int 0,.int 1])) cG) ρ=some [.tuple [.int 0,.int 1]]:=by
  show(if 1<=sizeLine then some [Dat.tuple [.int 0,.int 1]]else none)=_;exact if_pos z1
 unfold pI;rw[e1,Option.bind_some,h,Option.bind_some];show(if _ then some (List.replicate ((n:Int).toNat) [Dat.tuple [Dat.int 0,Dat.int 1]]).flatten else none)=_;rw[if_pos ⟨⟨by omega,by omega⟩,zm⟩,Lx,List.map_replicate,toNat_natCast];rfl
theorem q0:qD 0=.tuple [.int 0,.int 1]:=rfl
theorem q1:qD 1=.tuple [.int 1,.int 1]:=rfl
variable {c:Nat}
theorem kf(h:1<=c):SR c 0:=⟨pow_pos (by decide),one_lt_two_pow (by omega)⟩
theorem xa(h:1<=c):SR c 1:=⟨one_lt_two_pow (by omega),one_lt_two_pow (by omega)⟩
theorem jg:∀a b:List Rat,fu (a++b)=fu a*fu b
 |[],b=>by show fu b=1*fu b;omega
 |q::a,b=>by show q.den*fu (a++b)=q.den*fu a*fu b;rw[jg a b,Nat.mul_assoc]
theorem oJ:∀{a:List Rat},(∀q∈a,q.den=1)->fu a=1
 |[],_=>rfl
 |q::a,h=>by show q.den*fu a=1;rw[h q mem_cons_self,oJ λx hx=>h x (mem_cons_of_mem _ hx)]
theorem oR(h:q∈FM.dD k i):q=0\/q=1:=by
 obtain⟨c,_,rfl⟩:=mem_map.mp h;split
 ·exact .inr rfl
 ·exact .inl rfl
structure wL (c e n:Nat) (o:FM.Ol):Prop where
 len:o.2.1.length=n
 sq:∀q∈o.2.1,SR c q
 bd:SR c o.2.2
 dn:fu o.2.1*o.2.2.den<2^e
abbrev UZ (F:List Dat->Option Dat):Prop:=∀(c e:Nat) (p:List Rat) (os:List FM.Ol),1<=c->c<=3000000->e<=4000000->p.length<=100->os.length<=100->(∀q∈p,SR c q)->fu p<2^e->(∀o∈os,wL c e p.length o)->F [.tuple (p.map qD),.list (os.map ao)]=some (.list ((FM.bo p os).map aK))
theorem neg_den(q:Rat):(0-q).den=q.den:=by
 have:(0:Rat)-q=-q:=by grind
 rw[this];exact Rat.neg_den q
theorem gx(h:SR c q):SR c (0-q):=by
 refine⟨?_,by rw[neg_den];exact h.ld⟩;have:(0:Rat)-q=-q:=by grind
 rw[this,Rat.neg_num,natAbs_neg];exact h.ln
theorem sk:∀p:List Rat,fu (p.map λq=>0-q)=fu p
 |[]=>rfl
 |q::p=>by show(0-q).den*fu (p.map λq=>0-q)=q.den*fu p;rw[neg_den,sk p]
variable {a1:Addr}
theorem Nl(T:TX P K mg){a2:Addr}(Z1:TC K mg "ZERO_elimination" [.int 0,.int 1] a1)(Z2:TC K mg "ONE" [.int 1,.int 1] a2){Fw:List Dat->Option Dat}(vz:Dn P w K mg base 43 "whole_row" ["kind","fractions"] 2 Fw)(hW:Uv Fw)(jz:Dn P w K mg base 43 "minus" ["a","b"] 2 fz)(U:FnAt K mg "first_rows" (top 14) ["parts","others"]):
  ∃F,Dn P w K mg base 44 "first_rows" ["parts","others"] 2 F/\UZ F:=by
 refine⟨_,cO ["parts","others","rows","place","other","weights","less"] U λnd _ _ _ _ _ _ _ hr=>
  (ae (kQ 2 nd (gZ a9))
  (ae (jT PassesOwn.never rfl (qy T.enumerate (a6 (a5 1) a9)) (c8 (n:=2) rfl (aI (aq 3 nd) (aI (aq 4 nd) bQ)))
  (ae (p0 5 nd rfl (fw (tn:=["one"]) (fv:=["place"]) (js:=[3]) rfl (by decide +kernel) (by decide +kernel) rfl (by decide +kernel) (by decide +kernel) rfl
   (λx hx=>by((have eh:x="place":=(by simpa using hx));(rcases eh with rfl<;>exact⟨_,rfl⟩)))
   (λp hp=>by((have fc:p=(("place" : Str),(3:Nat)):=(by simpa using hp));(rcases fc with rfl<;>exact⟨rfl,.inr (.inl rfl),.inl rfl,λz=>by cases z⟩)))) (ju T.range (a6 (cX T.len (a6 (a5 1) a9)) a9 (hs:=aZ))) (λ_ _ _ _=>(aq 0 (show(["one","place"]:List Str).Nodup by decide +kernel))) (λ_ _ _ _=>d9) (λ_ _ _ _=>(gq (cy hr (a5 1) (a5 0)) (cv Z2.mg Z2.tup) (cv Z1.mg Z1.tup))) (cV rfl))
  (ag (ir 2 (ay vz hr (a6 (aj (a5 4) a8) (a6 (iU (iU (cE (ny T.list (a6 (aj (a5 4) a8) a9 (hs:=aM)))) (eC (a6 (cv Z1.mg Z1.tup) (a6 (aj (a5 4) a8) a9 (hs:=aM))))) (a5 5)) a9 (hs:=cC)) (hs:=aM)))))))
  (ae (qx 6 nd rfl (j4 (N':=["part"])) (a5 0) (λ_ _ _ _=>(aq 0 (show(["part"]:List Str).Nodup by decide +kernel))) (λ_ _ _ _=>d9) (λ_ _ _ _=>(ay jz hr (a6 (cv Z1.mg Z1.tup) (a6 (a5 0) a9)))) (cV rfl))
  (ae (ir 2 (ay vz hr (a6 aT (a6 (iU (iU (a5 6) (eC (a6 (cv Z2.mg Z2.tup) (a6 (cv Z1.mg Z1.tup) a9)))) (cE (tw (gZ (a6 (cv Z1.mg Z1.tup) a9)) (cX T.len (a6 (a5 1) a9))))) a9 (hs:=cC)))))
  (ag (ax (a5 2))))))),?_⟩
 intro c e p os kv hc he hp fW lQ A3 bx;have z0:0<=sizeLine:=zero_le _;have z1:1<=sizeLine:=sz (by decide);have z2:2<=sizeLine:=sz (by decide);have lo:=jc ao os;have v3:qQ (bh (aN 1) cG) (bj [~~~.tuple (p.map qD),~~~.list (os.map ao),some (.own ([])),none,none,none,none])=some ((eN 0 os).map CZ):=by
  rw[<- En];rfl
 refine bX ?_;simp!;rw[aA (af:=[~~~.tuple (p.map qD),~~~.list (os.map ao),some (.own ([])),none,none,none,none]) (by simp![z0])];refine gm (I:=_) (ly (l:=eN 0 os) (s:=[]) CZ (fun(acc:List FM.Row) Γ=>∃x3 x4 x5,Γ=[~~~.tuple (p.map qD),~~~.list (os.map ao),some (.own (acc.map aK)),x3,x4,x5,none]) (λacc l=>acc.length+l.length<=100/\∀x∈l,x∈eN 0 os) (λacc (q:Nat×FM.Ol)=>acc++[FM.whole q.2.1 (q.2.2.1++[0,q.2.2.2]++FM.dD os.length q.1)]) v3 ⟨by
   rw[Aq];exact le_trans (le_of_eq (zero_add _)) fW,λ_ h=>h⟩ ⟨none,none,none,rfl⟩ ?_) ?_
 ·rintro acc ⟨i,o⟩ l Γ ⟨hq,iJ⟩ ⟨x3,x4,x5,rfl⟩;rw[length_cons]at hq;obtain⟨PM,Ld⟩:=Hs (iJ (i,o) mem_cons_self);have ho:=bx o PM;refine⟨[(3,.int (i:Int)),(4,ao o)],rfl,?_⟩;dsimp!;have eR:jI [.int ((os.length:Nat):Int)]=some (gH 0 os.length):=DJ os.length (by omega);have ec:bV (aName 0) fk (vc (bS (L3.f2 cM (aN 1) (aN 0))) (fC (.tuple [.int 1,.int 1])) (fC (.tuple [.int 0,.int 1]))) [none,some (.int (i:Int))] (gH 0 os.length)=some ((FM.dD os.length i).map qD):=by
   refine de _ _ (by rw[iq,length_map,FM.oQ]) λn d o' h1 h2=>?_;obtain⟨hn,rfl⟩:=tp h1;refine⟨[(0,.int (0+(n:Int)))],rfl,?_⟩;rw[getElem?_map]at h2;have hu:(FM.dD os.length i)[n]?=some (if i=n then 1 else 0):=by
    unfold FM.dD;rw[getElem?_map,List.getElem?_range hn];rfl
   rw[hu]at h2;cases h2;by_cases ci:i=n
   ·have QR:(i:Int)=0+(n:Int):=by omega
    rw[if_pos ci,q1];simp![fq,eq_true QR]
   ·have QR:¬(i:Int)=0+(n:Int):=by omega
    rw[if_neg ci,q0];simp![fq,eq_false QR]
  have zn:os.length<sizeLine:=lt_of_lt_of_le (show os.length<1000 by omega) (sz (by decide));rw[aA (af:=[~~~.tuple (p.map qD),~~~.list (os.map ao),some (.own (acc.map aK)),~~~.int (i:Int),~~~(ao o),~~~.list ((FM.dD os.length i).map qD),none]) (BN (AD (mQ (as:=[.int ((os.length:Nat):Int)]) (by simp![lo]) eR) (by rw[iq];exact zn) ec))];have a1:=vj o.2.1 [0,o.2.2] (by rw[ho.len];show _+2<=_;omega);have a2:=vj (o.2.1++[0,o.2.2]) (FM.dD os.length i) (by rw[length_append,ho.len,FM.oQ];show _+2+_<=_;omega);have a1:jN (.list (o.2.1.map qD)) (.list [.tuple [.int 0,.int 1],qD o.2.2])=some (.list ((o.2.1++[0,o.2.2]).map qD)):=a1;obtain⟨ew,_⟩:=hW c e o.1 (o.2.1++[0,o.2.2]++FM.dD os.length i) (by rw[length_append,length_append,ho.len,FM.oQ];show _+2+_<=_;omega) (by omega) he (λq hq=>by
   rcases mem_append.mp hq with h|h
   ·rcases mem_append.mp h with h|h
    ·exact ho.sq q h
    ·rcases mem_cons.mp h with h|h
     ·rw[h];exact kf kv
     ·rw[mem_singleton.mp h];exact ho.bd
   ·rcases oR h with e|e
    ·rw[e];exact kf kv
    ·rw[e];exact xa kv) (by
   rw[jg,jg,oJ (a:=FM.dD os.length i) (λq hq=>by rcases oR hq with e|e<;>(rw[e];rfl)),mul_one];show fu o.2.1*(1*(o.2.2.den*1))<_;rw[one_mul,mul_one];exact ho.dn)
  have l1:sd [.tuple (o.2.1.map qD)]=some (o.2.1.map qD):=rfl;have zs:acc.length<sizeLine:=lt_of_lt_of_le (show acc.length<1000 by omega) (sz (by decide));refine⟨[~~~.tuple (p.map qD),~~~.list (os.map ao),some (.own (acc.map aK++[aK (FM.whole o.1 (o.2.1++[0,o.2.2]++FM.dD os.length i))])),~~~.int (i:Int),~~~(ao o),~~~.list ((FM.dD os.length i).map qD),none],?_,⟨_,_,_,by rw[map_append];rfl⟩,by rw[length_append];show acc.length+1+l.length<=100;omega,λx hx=>iJ x (mem_cons_of_mem _ hx)⟩;simp![R0,Wk,Wj,l1,a1,a2,ew,length_map,zs,z2]
 ·rintro af ⟨x3,x4,x5,rfl⟩;rw[CY,nil_append];have zp:p.length<sizeLine:=lt_of_lt_of_le (show p.length<1000 by omega) (sz (by decide));have ec:bV (aName 0) fk (kK 2 fz (bh (fC (.tuple [.int 0,.int 1])) (bh (aN 0) cG))) [none] (p.map qD)=some ((p.map λq=>0-q).map qD):=by
   refine de _ _ (by rw[length_map,length_map,length_map]) λn d o' h1 h2=>?_;rw[getElem?_map]at h1 h2;rw[getElem?_map]at h2;cases hz:p[n]? with
   |none=>rw[hz]at h1;cases h1
   |some q=>
    rw[hz]at h1 h2;cases h1;cases h2;refine⟨[(0,qD q)],rfl,?_⟩;have em:fz [.tuple [.int 0,.int 1],qD q]=some (qD (0-q)):=my (kf (c:=1) (by decide)) (lQ q (mem_of_getElem? hz)) (by decide) (by omega);simp![em]
  rw[aA (af:=[~~~.tuple (p.map qD),~~~.list (os.map ao),some (.own ((FM.cB os.length 0 os).map aK)),x3,x4,x5,~~~.list ((p.map λq=>0-q).map qD)]) (by simp![lV,length_map,zp,ec])];have a1:=vj (p.map λq=>0-q) [1,0] (by rw[length_map];show _+2<=_;omega);have a2:=vj ((p.map λq=>0-q)++[1,0]) (List.replicate os.length 0) (by rw[length_append,length_map,length_replicate];show _+2+_<=_;omega);have a1:jN (.list ((p.map λq=>0-q).map qD)) (.list [.tuple [.int 1,.int 1],.tuple [.int 0,.int 1]])=some (.list ((p.map (λq=>0-q)++[1,0]).map qD)):=a1;obtain⟨ew,_⟩:=hW c e .eq ((p.map λq=>0-q)++[1,0]++List.replicate os.length 0) (by rw[length_append,length_append,length_map,length_replicate];show _+2+_<=_;omega) (by omega) he (λq hq=>by
   rcases mem_append.mp hq with h|h
   ·rcases mem_append.mp h with h|h
    ·obtain⟨x,hx,rfl⟩:=mem_map.mp h;exact gx (lQ x hx)
    ·rcases mem_cons.mp h with h|h
     ·rw[h];exact xa kv
     ·rw[mem_singleton.mp h];exact kf kv
   ·rw[(mem_replicate.mp h).2];exact kf kv) (by
   rw[jg,jg,oJ (a:=List.replicate os.length 0) (λq hq=>by rw[(mem_replicate.mp hq).2];rfl),mul_one,sk];show fu p*1<_;rw[mul_one];exact A3)
  have er:fL (pI (nJ (bh (fC (.tuple [.int 0,.int 1])) cG)) (i7 kU (bh (aN 1) cG))) (bj [~~~.tuple (p.map qD),~~~.list (os.map ao),some (.own ((FM.cB os.length 0 os).map aK)),x3,x4,x5,~~~.list ((p.map λq=>0-q).map qD)])=some (.list ((List.replicate os.length (0:Rat)).map qD)):=by
   unfold fL;rw[yP (n:=os.length) lo fW];rfl
  have zf:(FM.cB os.length 0 os).length<sizeLine:=by
   rw[Am];exact lt_of_lt_of_le (show os.length<1000 by omega) (sz (by decide))
  have ks:bw .eq="=":=rfl;rw[ks]at ew;have Wd:(FM.bo p os).map aK=(FM.cB os.length 0 os).map aK++[aK (FM.whole .eq (p.map (λq=>0-q)++[1,0]++List.replicate os.length 0))]:=by
   show(FM.cB os.length 0 os++[_]).map aK=_;rw[map_append];rfl
  rw[Wd];generalize fL (pI (nJ (bh (fC (.tuple [.int 0,.int 1])) cG)) (i7 kU (bh (aN 1) cG)))=gr at *;have er2:∀(y3 y4 y5:Option Dat),True:=λ_ _ _=>trivial;rw[aA (af:=[~~~.tuple (p.map qD),~~~.list (os.map ao),some (.own ((FM.cB os.length 0 os).map aK++[aK (FM.whole .eq (p.map (λq=>0-q)++[1,0]++List.replicate os.length 0))])),x3,x4,x5,~~~.list ((p.map λq=>0-q).map qD)]) (by
   simp only[bj,map_cons,map_nil]at er;simp![er,a1,a2,ew,length_map,zf,z2])]
  simp![]
theorem DT:((a.num,(a.den:Int)):Int×Int)=(b.num,(b.den:Int))↔a=b:=by
 constructor
 ·intro h;obtain⟨h1,h2⟩:=Prod.mk.inj h;exact Rat.ext h1 (by omega)
 ·intro h;rw[h]
theorem pJ(a b:Rat):cM (qD a) (qD b)=some (.bool (decide (a=b))):=by
 have:=CV (a.num,(a.den:Int)) (b.num,(b.den:Int));rw[show decide ((a.num,(a.den:Int))=(b.num,(b.den:Int)))=decide (a=b)from decide_eq_decide.mpr DT]at this;exact this
theorem Sf(a b:Rat):gK (qD a) (qD b)=some (.bool (!decide (a=b))):=by
 have:=MP (a.num,(a.den:Int)) (b.num,(b.den:Int));rw[show decide ((a.num,(a.den:Int))=(b.num,(b.den:Int)))=decide (a=b)from decide_eq_decide.mpr DT]at this;exact this
theorem HG(T:TX P K mg)(Z1:TC K mg "ZERO_elimination" [.int 0,.int 1] a1)(ng:Dn P w K mg base 43 "below" ["a","b"] 2 fQ)(U:FnAt K mg "is_never" (top 27) ["kind","bound"]):
  ∃F,Dn P w K mg base 44 "is_never" ["kind","bound"] 2 F/\∀(n:Nat) (k:FM.Kn) (b:Rat),n<=4000000->SR n b->F [.str (bw k),qD b]=some (.bool (FM.cL k b)):=by
 refine⟨_,cO ["kind","bound"] U λnd _ _ _ _ _ _ _ hr=>
  (ae (bc (cy hr (a5 0) aT) (ag (ax (Ox hr (a5 1) (cv Z1.mg Z1.tup)))) aV)
  (ag (ax (qz (ay ng hr (a6 (a5 1) (a6 (cv Z1.mg Z1.tup) a9))) (fP (ja (iT hr (a5 0) aT) (fP (iT hr (a5 1) (cv Z1.mg Z1.tup))))))))),?_⟩
 intro n k b hn hb;have e1:gK (qD b) (.tuple [.int 0,.int 1])=some (.bool (!decide (b=0))):=Sf b 0;have e2:cM (qD b) (.tuple [.int 0,.int 1])=some (.bool (decide (b=0))):=pJ b 0;have e3:fQ [qD b,.tuple [.int 0,.int 1]]=some (.bool (decide (b<0))):=mz hb (kf (c:=1) (by decide)) hn (by decide);by_cases c1:bw k="="
 ·have:=(i6 k).mp c1;subst this;have er:FM.cL .eq b=!decide (b=0):=by show decide (b≠0)=_;rw[decide_not]
  rw[er];simp![cS,eq_true c1,e1]
 ·by_cases c2:bw k="<"
  ·have:=(yi k).mp c2;subst this;have er:FM.cL .lt b=(decide (b<0) || decide (b=0)):=rfl;rw[er];by_cases c3:b<0
   ·rw[decide_eq_true c3]at e3 ⊢;simp![cS,eq_false c1,eq_true c2,e3,Bool.true_or]
   ·rw[decide_eq_false c3]at e3 ⊢;simp![cS,eq_false c1,eq_true c2,e3,e2,Bool.false_or]
  ·have hk:k=.le:=by
    cases k with
    |eq=>exact absurd rfl c1
    |lt=>exact absurd rfl c2
    |le=>rfl
   subst hk;have er:FM.cL .le b=decide (b<0):=rfl;rw[er];by_cases c3:b<0
   ·rw[decide_eq_true c3]at e3 ⊢;simp![cS,eq_false c1,eq_false c2,e3]
   ·rw[decide_eq_false c3]at e3 ⊢;simp![cS,eq_false c1,eq_false c2,e3]
abbrev f9 (b:Bool):Str:=if b=true then "<" else "<="
def dr:Option FM.fG->Dat
 |none=>.none
 |some b=>.tuple [.str (f9 b.1),qD b.2.1,.list (b.2.2.map qD)]
def iV:Option Rat->Dat
 |none=>.none
 |some q=>qD q
theorem jA:pg .none .none=some (.bool true):=rfl
theorem uQ(q:Rat):pg (qD q) .none=some (.bool false):=rfl
theorem m6(b:FM.fG):pg (dr (some b)) .none=some (.bool false):=rfl
theorem Na(T:TX P K mg)(U:FnAt K mg "number_of" (top 31) ["end"]):
  ∃F,Dn P w K mg base 41 "number_of" ["end"] 1 F/\∀b,F [dr b]=some (iV (FM.gI b)):=by
 refine⟨_,cO ["end"] U λnd _ _ _ _ _ _ _ hr=>
  (ag (ax (gq (dM (a5 0) cK) cK (aj (a5 0) a8)))),?_⟩
 intro b;cases b with
 |none=>rfl
 |some b=>rfl
theorem JJ(T:TX P K mg)(Z1:TC K mg "ZERO_elimination" [.int 0,.int 1] a1)(jz:Dn P w K mg base 43 "minus" ["a","b"] 2 fz)(U:FnAt K mg "turned_number_of" (top 32) ["end"]):
  ∃F,Dn P w K mg base 44 "turned_number_of" ["end"] 1 F/\∀(n:Nat) b,n<=4000000->(∀x,b=some x->SR n x.2.1)->F [dr b]=some (iV (FM.gk b)):=by
 refine⟨_,cO ["end"] U λnd _ _ _ _ _ _ _ hr=>
  (ag (ax (gq (dM (a5 0) cK) cK (ay jz hr (a6 (cv Z1.mg Z1.tup) (a6 (aj (a5 0) a8) a9 (hs:=aM))))))),?_⟩
 intro n b hn hb;cases b with
 |none=>rfl
 |some b=>
  have e:fz [.tuple [.int 0,.int 1],qD b.2.1]=some (qD (0-b.2.1)):=my (kf (c:=1) (by decide)) (hb b rfl) (by decide) hn;have a1:bA (dr (some b)) (.int 1)=some (qD b.2.1):=rfl;have er:iV (FM.gk (some b))=qD (0-b.2.1):=rfl;rw[er];dsimp![m6,a1,e]
theorem T2(h:2<=c):SR c 2:=⟨lt_of_lt_of_le (show(2:Nat)<2^2 by decide) (pow_le_pow_right (by decide) h),one_lt_two_pow (by omega)⟩
theorem HJ(T:TX P K mg){a2 a3:Addr}(Z1:TC K mg "ZERO_elimination" [.int 0,.int 1] a1)(Z2:TC K mg "ONE" [.int 1,.int 1] a2)(Z3:TC K mg "TWO" [.int 2,.int 1] a3)(vA:Dn P w K mg base 43 "plus" ["a","b"] 2 j6)(jz:Dn P w K mg base 43 "minus" ["a","b"] 2 fz)(EL:Dn P w K mg base 43 "over" ["a","b"] 2 oK)(U:FnAt K mg "between" (top 33) ["least","greatest"]):
  ∃F,Dn P w K mg base 44 "between" ["least","greatest"] 2 F/\∀(n:Nat) l g,n<=1900000->(∀x,l=some x->SR n x)->(∀x,g=some x->SR n x)->F [iV l,iV g]=some (qD (FM.gM l g)):=by
 refine⟨_,cO ["least","greatest"] U λnd _ _ _ _ _ _ _ hr=>
  (ae (bc (cD (fT (dM (a5 0) cK) (f6 (dM (a5 1) cK)))) (ag (ax (cv Z1.mg Z1.tup))) aV)
  (ae (bc (dM (a5 1) cK) (ag (ax (ay vA hr (a6 (a5 0) (a6 (cv Z2.mg Z2.tup) a9))))) aV)
  (ae (bc (dM (a5 0) cK) (ag (ax (ay jz hr (a6 (a5 1) (a6 (cv Z2.mg Z2.tup) a9))))) aV)
  (ag (ax (ay EL hr (a6 (ay vA hr (a6 (a5 0) (a6 (a5 1) a9))) (a6 (cv Z3.mg Z3.tup) a9) (hs:=aZ)))))))),?_⟩
 intro n l g hn hl hg;cases l with
 |none=>
  cases g with
  |none=>rfl
  |some g=>
   have e:fz [qD g,.tuple [.int 1,.int 1]]=some (qD (g-1)):=my (hg g rfl) (xa (c:=1) (by decide)) (by omega) (by decide);simp![iV,jA,uQ,e,FM.gM]
 |some l=>
  cases g with
  |none=>
   have e:j6 [qD l,.tuple [.int 1,.int 1]]=some (qD (l+1)):=lG (hl l rfl) (xa (c:=1) (by decide)) (by omega) (by decide);simp![iV,jA,uQ,e,FM.gM]
  |some g=>
   have e1:=lG (hl l rfl) (hg g rfl) (by omega) (by omega);have e2:oK [qD (l+g),.tuple [.int 2,.int 1]]=some (qD ((l+g)/2)):=Ig ((hl l rfl).add (hg g rfl)) (T2 (c:=2) (by decide)) (by omega) (by decide) (by decide);simp![iV,jA,uQ,e1,e2,FM.gM]
theorem qI(z:Int):qD (z:Rat)=.tuple [.int z,.int 1]:=rfl
variable {b:Nat} {z:Int}
theorem Ku(hb:1<=b)(h:z.natAbs<2^b):SR b (z:Rat):=⟨h,one_lt_two_pow (by omega)⟩
def eQ:Nat->List Rat->List (Nat×Rat)
 |_,[]=>[]
 |i,x::xs=>(i,x)::eQ (i+1) xs
abbrev JF (p:Nat×Rat):Dat:=.tuple [.int (p.1:Int),qD p.2]
theorem LC:∀(xs:List Rat) (i:Nat),kz i (xs.map qD)=(eQ i xs).map JF
 |[],i=>rfl
 |x::xs,i=>by rw[map_cons,kz,eQ,map_cons,LC xs (i+1)]
theorem Hu:∀{xs:List Rat} {i:Nat} {p:Nat×Rat},p∈eQ i xs->p.2∈xs/\p.1<i+xs.length
 |[],i,p,h=>by simp[eQ]at h
 |x::xs,i,p,h=>by
  rw[eQ]at h;rcases mem_cons.mp h with e|h
  ·rw[e];exact⟨mem_cons_self,by rw[length_cons];omega⟩
  ·obtain⟨h1,h2⟩:=Hu h;exact⟨mem_cons_of_mem _ h1,by rw[length_cons];omega⟩
theorem Dc(r:FM.Row):∀(xs:List Rat) (i:Nat) (acc:Rat),(eQ i xs).foldl (λacc (p:Nat×Rat)=>if FM.ent r p.1≠0 then acc-(FM.ent r p.1:Rat)*p.2 else acc) acc=FM.sf r i xs acc
 |[],i,acc=>rfl
 |x::xs,i,acc=>by
  rw[eQ,foldl_cons,Dc r xs (i+1)];rfl
inductive gN:List Rat->Nat->Prop
 |nil:gN [] 0
 |zero {xs:List Rat} {C:Nat} {q:Rat}:q=0->gN xs C->gN (q::xs) C
 |cons {xs:List Rat} {C s:Nat} {q:Rat}:SR s q->gN xs C->gN (q::xs) (C+s+1)
variable {xs:List Rat} {C:Nat}
theorem gN.mem(h:gN xs C):∀q∈xs,SR (C+1) q:=by
 induction h with
 |nil=>intro q hq;cases hq
 |zero h0 _ ih=>
  intro q hq;rcases mem_cons.mp hq with e|e
  ·rw[e,h0];exact⟨pow_pos (by decide),one_lt_two_pow (by omega)⟩
  ·exact ih q e
 |cons hs _ ih=>
  intro q hq;rcases mem_cons.mp hq with e|e
  ·rw[e];exact hs.up (by omega)
  ·exact(ih q e).up (by omega)
def Nd (u d:Nat) (q:Rat):Prop:=∃N D:Int,D≠0/\N.natAbs<2^u/\D.natAbs<=2^d/\q=(N:Rat)/(D:Rat)
theorem mh(h0:p≠0)(hz:z.natAbs<2^b)(hp:p.natAbs<2^b):SR b ((z:Rat)/(p:Rat)):=by
 obtain⟨e1,e2⟩:=Fr.jt z p h0;exact ur h0 e1 e2 hz hp
variable {u:Nat}
theorem Nd.sr{d:Nat}(h:Nd u d q)(hd:d<u):SR u q:=by
 obtain⟨N,D,h0,hN,hD,rfl⟩:=h;exact mh h0 hN (lt_of_le_of_lt hD (Nat.pow_lt_pow_right (by decide) hd))
theorem zB(h:z.natAbs<2^b):Nd b 0 (z:Rat):=⟨z,1,by decide,h,by decide,by
 have:((1:Int):Rat)=1:=rfl;rw[this];grind⟩
theorem Cm{s:Nat}{acc y:Rat}{a:Int}(h:Nd (b+C) C acc)(ha:a.natAbs<2^b)(hy:SR s y):Nd (b+(C+s+1)) (C+s+1) (acc-(a:Rat)*y):=by
 obtain⟨N,D,h0,hN,hD,rfl⟩:=h;have yp:(y.den:Int)≠0:=sS y;refine⟨N*(y.den:Int)-a*y.num*D,D*(y.den:Int),mul_ne_zero h0 yp,?_,?_,?_⟩
 ·have h1:(N*(y.den:Int)).natAbs<2^(b+C+s):=cT hN hy.dn;have h2:(a*y.num*D).natAbs<2^(b+C+s):=by
   rw[natAbs_mul,show b+C+s=(b+s)+C by omega,pow_add];have h3:=cT ha hy.ln;have p:=pow_pos (n:=C) (show 0<2 by decide);exact lt_of_le_of_lt (mul_le_mul_left _ hD) (Nat.mul_lt_mul_of_pos_right h3 p)
  rw[show b+(C+s+1)=b+C+s+1 by omega];exact HW h1 h2
 ·rw[natAbs_mul];refine le_trans (mul_le_mul hD (Nat.le_of_lt hy.dn)) ?_;rw[<- pow_add];exact pow_le_pow_right (by decide) (by omega)
 ·have e1:y=(y.num:Rat)/((y.den:Int):Rat):=by
   have:((y.den:Int):Rat)=(y.den:Rat):=rfl;rw[this,<- Rat.mkRat_eq_div,mkRat_self]
  have d1:((D:Int):Rat)≠0:=λz=>h0 (FM.bP.mp z);have d2:(((y.den:Int)):Rat)≠0:=λz=>yp (FM.bP.mp z);rw[Rat.intCast_sub,intCast_mul,intCast_mul,intCast_mul,intCast_mul];conv=>lhs;rw[e1]
  generalize ((y.den:Int):Rat)=dd at *;generalize (y.num:Rat)=nn at *;grind
theorem Nd.up{d u' d':Nat}(h:Nd u d q)(hu:u<=u')(hd:d<=d'):Nd u' d' q:=by
 obtain⟨N,D,h0,hN,hD,e⟩:=h;exact⟨N,D,h0,dW hN hu,le_trans hD (pow_le_pow_right (by decide) hd),e⟩
theorem vY(r:FM.Row){b:Nat}(hr:∀z∈r.2,z.natAbs<2^b):∀(xs:List Rat) (i C C1:Nat) (acc:Rat),Nd (b+C) C acc->gN xs C1->Nd (b+(C+C1)) (C+C1) (FM.sf r i xs acc)
 |[],i,C,C1,acc,h,hx=>by cases hx;exact h
 |x::xs,i,C,C1,acc,h,hx=>by
  have key:∃C2 C3,C2+C3=C+C1/\gN xs C3/\Nd (b+C2) C2 (if FM.ent r i≠0 then acc-(FM.ent r i:Rat)*x else acc):=by
   cases hx with
   |zero h0 hx=>
    refine⟨C,C1,rfl,hx,?_⟩;rw[h0,show acc-(FM.ent r i:Rat)*0=acc by grind];split<;>exact h
   | @cons _ C' s _ hs hx=>
    refine⟨C+s+1,C',by omega,hx,?_⟩;split
    ·exact Cm h (d6 hr) hs
    ·exact h.up (by omega) (by omega)
  obtain⟨C2,C3,e,h3,h4⟩:=key;rw[<- e];exact vY r hr xs (i+1) C2 C3 _ h4 h3
abbrev eX (F:List Dat->Option Dat):Prop:=∀(b C:Nat) (r:FM.Row) (x:List Rat),1<=b->x.length<r.2.length->x.length<=100->(∀z∈r.2,z.natAbs<2^b)->gN x C->b+C+1<=4000000->F [aK r,.list (x.map qD)]=some (qD (FM.lZ r x))/\Nd (b+C) C (FM.lZ r x)
theorem Ht:∀(xs:List Rat) (i:Nat),(eQ i xs).map (λp=>p.2)=xs
 |[],i=>rfl
 |x::xs,i=>by show x::(eQ (i+1) xs).map _=_;rw[Ht xs]
theorem QD(T:TX P K mg)(jz:Dn P w K mg base 43 "minus" ["a","b"] 2 fz)(Rv:Dn P w K mg base 43 "times" ["a","b"] 2 ka)(U:FnAt K mg "left_over" (top 22) ["row","point"]):
  ∃F,Dn P w K mg base 44 "left_over" ["row","point"] 2 F/\eX F:=by
 refine⟨_,cO ["row","point","left","place","number","part"] U λnd _ _ _ _ _ _ _ hr=>
  (ae (aC 2 nd (aX (k:=0) (a6 (aj (aj (a5 0) a8) (cX T.len (a6 (a5 1) a9))) (a6 a8 a9) (hs:=aM))))
  (ae (jT PassesOwn.never rfl (qy T.enumerate (a6 (a5 1) a9)) (c8 (n:=2) rfl (aI (aq 3 nd) (aI (aq 4 nd) bQ)))
  (ae (aC 5 nd (aj (aj (a5 0) a8) (a5 3)))
  (ag (bc (dg hr (a5 5) a8) (ag (aC 2 nd (ay jz hr (a6 (a5 2) (a6 (ay Rv hr (a6 (aX (k:=0) (a6 (a5 5) (a6 a8 a9))) (a6 (a5 4) a9) (hs:=cJ))) a9 (hs:=aZ)))))) aV))))
  (ag (ax (a5 2))))),?_⟩
 intro b C r x hb hl Ej hr hx hbud;have z2:2<=sizeLine:=sz (by decide);have lo:=jc qD x;have a0:bA (fE r.2) (.int (x.length:Int))=some (.int (FM.ent r x.length)):=gT hl;refine⟨?_,by
  have:=vY r hr x 0 0 C (FM.ent r x.length:Rat) (zB (d6 hr)) hx;rw[zero_add]at this;exact this⟩
 have v3:qQ (bh (aN 1) cG) (bj [~~~(aK r),~~~.list (x.map qD),~~~(qD (FM.ent r x.length:Rat)),none,none,none])=some ((eQ 0 x).map JF):=by
  rw[<- LC];rfl
 refine bX ?_;simp!;rw[aA (af:=[~~~(aK r),~~~.list (x.map qD),~~~(qD (FM.ent r x.length:Rat)),none,none,none]) (by rw[qI];dsimp![iG,lo,a0,z2])];refine gm (I:=_) (ly (l:=eQ 0 x) (s:=(FM.ent r x.length:Rat)) JF (fun(acc:Rat) Γ=>∃x3 x4 x5,Γ=[~~~(aK r),~~~.list (x.map qD),~~~(qD acc),x3,x4,x5]) (λacc l=>∃C2 C3,C2+C3=C/\Nd (b+C2) C2 acc/\gN (l.map λp=>p.2) C3/\∀p∈l,p∈eQ 0 x) (λacc (p:Nat×Rat)=>if FM.ent r p.1≠0 then acc-(FM.ent r p.1:Rat)*p.2 else acc) v3 ⟨0,C,by omega,zB (d6 hr),by rw[Ht];exact hx,λ_ h=>h⟩ ⟨none,none,none,rfl⟩ ?_) ?_
 ·rintro acc ⟨i,y⟩ l Γ ⟨C2,C3,hC,hs,Tv,iJ⟩ ⟨x3,x4,x5,rfl⟩;obtain⟨hy,hi⟩:=Hu (iJ (i,y) mem_cons_self);have sy:=hx.mem y hy;have w4:∀p∈l,p∈eQ 0 x:=λp hp=>iJ p (mem_cons_of_mem _ hp);have hQ:∃C2 C3,C2+C3=C/\Nd (b+C2) C2 (if FM.ent r i≠0 then acc-(FM.ent r i:Rat)*y else acc)/\gN (l.map λp=>p.2) C3/\∀p∈l,p∈eQ 0 x:=by
   rw[map_cons]at Tv;cases Tv with
   |zero h0 hx=>
    refine⟨C2,C3,hC,?_,hx,w4⟩;have h0:y=0:=h0;rw[h0,show acc-(FM.ent r i:Rat)*0=acc by grind];split<;>exact hs
   | @cons _ C' s _ sM hx=>
    refine⟨C2+s+1,C',by omega,?_,hx,w4⟩;split
    ·exact Cm hs (d6 hr) sM
    ·exact hs.up (by omega) (by omega)
  refine⟨[(3,.int (i:Int)),(4,qD y)],rfl,?_⟩;dsimp!;have a1:bA (fE r.2) (.int (i:Int))=some (.int (FM.ent r i)):=gT (by have:i<0+x.length:=hi;omega);rw[aA (af:=[~~~(aK r),~~~.list (x.map qD),~~~(qD acc),~~~.int (i:Int),~~~(qD y),~~~.int (FM.ent r i)]) (by dsimp![iG,a1])];by_cases c:FM.ent r i=0
  ·refine⟨[~~~(aK r),~~~.list (x.map qD),~~~(qD acc),~~~.int (i:Int),~~~(qD y),~~~.int (FM.ent r i)],?_,⟨_,_,_,by rw[if_neg (λz=>z c)]⟩,hQ⟩;simp![fm,eq_true c]
  ·have e1:ka [.tuple [.int (FM.ent r i),.int 1],qD y]=some (qD ((FM.ent r i:Rat)*y)):=wJ (Ku hb (d6 hr)) sy (by omega) (by omega);have sp:SR (b+(C+1)) ((FM.ent r i:Rat)*y):=(Ku hb (d6 (j:=i) hr)).mul sy;have e2:=my (hs.sr (by omega)) sp (by omega) (by omega);refine⟨[~~~(aK r),~~~.list (x.map qD),~~~(qD (acc-(FM.ent r i:Rat)*y)),~~~.int (i:Int),~~~(qD y),~~~.int (FM.ent r i)],?_,⟨_,_,_,by rw[if_pos c]⟩,hQ⟩;simp![fm,eq_false c,z2,e1,e2]
 ·rintro af ⟨x3,x4,x5,rfl⟩;rw[Dc];simp![];rfl
theorem HL(h:m<=ds.length):L3.cutD ds (some (m:Int)) none=ds.drop m:=by
 unfold L3.cutD;rw[HT.oo,HT.oY,Nat.min_eq_left h,List.take_of_length_le (by rw[length_drop];omega)]
theorem O7(l:List Int)(h:j+1<=l.length):uv (fE l) (some ((j:Int)+1)) none=some (fE (l.drop (j+1))):=by
 show(if ¬(HT.cc (l.map Dat.int).length 0 (some ((j+1:Nat):Int))=0/\HT.cc (l.map Dat.int).length (l.map Dat.int).length none=(l.map Dat.int).length)then some (Dat.tuple (L3.cutD (l.map Dat.int) (some ((j+1:Nat):Int)) none))else none)=_;rw[if_pos (by rw[HT.oo,length_map];omega),HL (by rw[length_map];exact h),<- List.map_drop]
theorem VG(h:p≠0)(hb:p.natAbs<2^8000000):j7 [.int z,.int p]=some (qD ((z:Rat)/(p:Rat))):=by
 obtain⟨e1,e2⟩:=Fr.jt z p h;rw[oD h hb,e1,e2]
abbrev Rg (F:List Dat->Option Dat):Prop:=∀(b C m j:Nat) (rows:List FM.Row) (x:List Rat) (way:Int),(way=1\/way=-1)->1<=b->gY m b rows->x.length<m->m<=900->x.length<=100->j<m->gN x C->b+C+1<=4000000->F [.list (rows.map aK),.int (j:Int),.list (x.map qD),.int way]=some (dr (FM.cm rows j x way))/\∀t,FM.cm rows j x way=some t->SR (b+C) t.2.1
theorem Cn(h:Nd (b+C) C q)(hz:z.natAbs<2^b)(h0:z≠0):SR (b+C) (q/(z:Rat)):=by
 obtain⟨N,D,U9,hN,hD,rfl⟩:=h;have e:(N:Rat)/(D:Rat)/(z:Rat)=(N:Rat)/((D*z:Int):Rat):=by
  have d1:((D:Int):Rat)≠0:=λz=>U9 (FM.bP.mp z);have d2:((z:Int):Rat)≠0:=λy=>h0 (FM.bP.mp y);rw[intCast_mul];grind
 rw[e];refine mh (mul_ne_zero U9 h0) hN ?_;rw[natAbs_mul,add_comm b C,pow_add];exact lt_of_le_of_lt (Nat.mul_le_mul_right _ hD) (Nat.mul_lt_mul_of_pos_left hz (pow_pos (by decide)))
theorem OT(h:z≠0):((z:Rat)).num≠0:=h
theorem N8(T:TX P K mg){Fl:List Dat->Option Dat}(EM:Dn P w K mg base 44 "left_over" ["row","point"] 2 Fl)(hL:eX Fl)(EL:Dn P w K mg base 44 "over" ["a","b"] 2 oK)(ng:Dn P w K mg base 44 "below" ["a","b"] 2 fQ)(lh:Dn P w K mg base 44 "make" ["n","d"] 2 j7)(U:FnAt K mg "tightest" (top 23) ["rows","place","point","way"]):
  ∃F,Dn P w K mg base 45 "tightest" ["rows","place","point","way"] 4 F/\Rg F:=by
 refine⟨_,cO ["rows","place","point","way","best","row","part","kind","number"] U λnd _ _ _ _ _ _ _ hr=>
  (ae (aC 4 nd cK)
  (ae (dI PassesOwn.never rfl (a5 0) (aq 5 nd)
  (ae (aC 6 nd (bN (a5 3) (aj (aj (a5 5) a8) (a5 1))))
  (ag (bc (cD (cW (rQ (a5 6) a8) (d7 (cD (fT (ox (a5 6) a8) (f6 (cy hr (aj (a5 5) a8) aT))))))) (ae (aC 7 nd (gq (cy hr (aj (a5 5) a8) aT) aT aT))
  (ae (aC 8 nd (ay EL hr (a6 (ay EM hr (a6 (a5 5) (a6 (a5 2) a9))) (a6 (aX (k:=0) (a6 (a5 6) (a6 a8 a9))) a9 (hs:=cJ)) (hs:=aZ))))
  (ag (bc (cD (cW (dM (a5 4) cK) (cW (bJ (ay ng hr (a6 (a5 8) (a6 (aj (a5 4) a8) a9 (hs:=aM))))) (d7 (cD (fT (cy hr (a5 8) (aj (a5 4) a8)) (f6 (cy hr (a5 7) aT)))))))) (ag (aC 4 nd (aX (k:=0) (a6 (a5 7) (a6 (a5 8) (a6 (cE (gn rfl (fw (tn:=["weight"]) (fv:=["part"]) (js:=[6]) rfl (by decide +kernel) (by decide +kernel) rfl (by decide +kernel) (by decide +kernel) rfl
   (λx hx=>by((have eh:x="part":=(by simpa using hx));(rcases eh with rfl<;>exact⟨_,rfl⟩)))
   (λp hp=>by((have fc:p=(("part" : Str),(6:Nat)):=(by simpa using hp));(rcases fc with rfl<;>exact⟨rfl,.inr (.inl rfl),.inl rfl,λz=>by cases z⟩)))) (hG (aj (a5 5) a8) (iR (eI (cX T.len (a6 (a5 2) a9)) a8)) iS) (λ_ _ _ _=>(aq 0 (show(["weight","part"]:List Str).Nodup by decide +kernel))) (λ_ _ _ _=>d9) (λ_ _ _ _=>(ay lh hr (a6 (a5 0) (a6 (a5 1) a9)))) (cV rfl))) a9)))))) aV)))) aV))))
  (ag (ax (a5 4))))),?_⟩
 intro b C m j rows x way iC hb hR Tu oG Ej hj hx hsz;have z2:2<=sizeLine:=sz (by decide);have z3:3<=sizeLine:=sz (by decide);have lo:=jc qD x;have wb:∀r∈rows,(way*FM.ent r j).natAbs<2^b:=λr hr=>by
  have:=d6 (j:=j) (hR.bd r hr);rcases iC with e|e
  ·rw[e,Int.one_mul];exact this
  ·rw[e,Int.neg_mul,Int.one_mul,natAbs_neg];exact this
 have OU:∀r∈rows,way*FM.ent r j≠0->SR (b+C) (FM.dN j way x r):=λr hr h0=>by
  obtain⟨_,sl⟩:=hL b C r x hb (by rw[hR.len r hr];exact Tu) Ej (hR.bd r hr) hx hsz;exact Cn sl (wb r hr) h0
 have tS:∀(l:List FM.Row) (t:Option FM.fG),(∀r∈l,r∈rows)->(∀y,t=some y->SR (b+C) y.2.1)->∀y,l.foldl (FM.kb j way x) t=some y->SR (b+C) y.2.1:=λl=>by
  induction l with
  |nil=>intro t _ h;exact h
  |cons r l ih=>
   intro t iJ h;refine ih (FM.kb j way x t r) (λq hq=>iJ q (mem_cons_of_mem _ hq)) λy hy=>?_;unfold FM.kb at hy;split at hy
   ·rename_i hc;split at hy
    ·cases hy;refine OU r (iJ r mem_cons_self) ?_;rcases hc with h|h
     ·omega
     ·have:=h.1;omega
    ·exact h y hy
   ·exact h y hy
 refine⟨?_,tS rows none (λ_ h=>h) (λy h=>by cases h)⟩;refine bX ?_;simp!;rw[aA (af:=[~~~.list (rows.map aK),~~~.int (j:Int),~~~.list (x.map qD),~~~.int way,~~~(dr none),none,none,none,none]) (by simp![dr])];refine gm (I:=_) (gX (l:=rows) (s:=(none:Option FM.fG)) aK (fun(t:Option FM.fG) Γ=>∃x5 x6 x7 x8,Γ=[~~~.list (rows.map aK),~~~.int (j:Int),~~~.list (x.map qD),~~~.int way,~~~(dr t),x5,x6,x7,x8]) (λt l=>(∀y,t=some y->SR (b+C) y.2.1)/\∀r∈l,r∈rows) (FM.kb j way x) (d:=.list (rows.map aK)) rfl rfl ⟨λy h=>(by cases h),λ_ h=>h⟩ ⟨none,none,none,none,rfl⟩ ?_) ?_
 ·rintro t r l Γ ⟨ht,iJ⟩ ⟨x5,x6,x7,x8,rfl⟩;have hr:=iJ r mem_cons_self;have hQ:(∀y,FM.kb j way x t r=some y->SR (b+C) y.2.1)/\∀q∈l,q∈rows:=⟨tS [r] t (λq hq=>by rw[mem_singleton.mp hq];exact hr) ht,λq hq=>iJ q (mem_cons_of_mem _ hq)⟩;have a1:bA (fE r.2) (.int (j:Int))=some (.int (FM.ent r j)):=gT (by rw[hR.len r hr];exact hj);have em:jK (.int way) (.int (FM.ent r j))=some (.int (way*FM.ent r j)):=mulL _ (by rcases iC with e|e<;>(rw[e];decide)) (by rcases iC with e|e<;>(rw[e];decide));refine⟨[(5,aK r)],rfl,?_⟩;dsimp!;rw[aA (af:=[~~~.list (rows.map aK),~~~.int (j:Int),~~~.list (x.map qD),~~~.int way,~~~(dr t),~~~(aK r),~~~.int (way*FM.ent r j),x7,x8]) (by dsimp![iG,a1,em])];by_cases hc:FM.mY j way r
  ·have h0:way*FM.ent r j≠0:=by
    rcases hc with h|h
    ·omega
    ·have:=h.1;omega
   rw[nt (by
    rcases hc with h|⟨h,hk⟩
    ·dsimp![gS,eq_true h]
    ·have h':¬0<way*FM.ent r j:=by omega
     have k1:=(i6 r.1).mpr hk;dsimp![gS,dh,kJ,cS,eq_false h',eq_true h,eq_true k1])]
   obtain⟨eL,sl⟩:=hL b C r x hb (by rw[hR.len r hr];exact Tu) Ej (hR.bd r hr) hx hsz;have eo:oK [qD (FM.lZ r x),.tuple [.int (way*FM.ent r j),.int 1]]=some (qD (FM.dN j way x r)):=Ig (sl.sr (by omega)) (Ku hb (wb r hr)) (by omega) (by omega) (OT h0);have sn:=OU r hr h0;have ek:(if r.1=.lt then("<" : Str)else "<=")=f9 (decide (r.1=.lt)):=by unfold f9;by_cases c:r.1=.lt<;>simp[c]
   rw[aA (af:=[~~~.list (rows.map aK),~~~.int (j:Int),~~~.list (x.map qD),~~~.int way,~~~(dr t),~~~(aK r),~~~.int (way*FM.ent r j),~~~.str (f9 (decide (r.1=.lt))),x8]) (by
    by_cases c:r.1=.lt
    ·have k1:=(yi r.1).mpr c;rw[decide_eq_true c];dsimp![kJ,cS,eq_true k1,f9]
    ·have k1:¬bw r.1="<":=λz=>c ((yi r.1).mp z);rw[decide_eq_false c];dsimp![kJ,cS,eq_false k1,f9])]
   rw[aA (af:=[~~~.list (rows.map aK),~~~.int (j:Int),~~~.list (x.map qD),~~~.int way,~~~(dr t),~~~(aK r),~~~.int (way*FM.ent r j),~~~.str (f9 (decide (r.1=.lt))),~~~(qD (FM.dN j way x r))]) (by dsimp![eL,eo,z2])];have eb:FM.kb j way x t r=if FM.better t (decide (r.1=.lt)) (FM.dN j way x r)=true then some (decide (r.1=.lt),FM.dN j way x r,FM.nh j way x r)else t:=if_pos hc;generalize xD:decide (r.1=.lt)=kt at *;generalize hv:FM.dN j way x r=v at *;have hN:b+C<=4000000:=by omega
   have TR:cM (.str (f9 kt)) (.str "<")=some (.bool kt):=by cases kt<;>rfl
   have test:jo (bS (L3.f2 pg (aN 4) (fC .none))) (jo (lK (kK 2 fQ (bh (aN 8) (bh (L3.f2 bA (aN 4) (fC (.int 1))) cG)))) (jC (bS (L3.f2 cM (aN 8) (L3.f2 bA (aN 4) (fC (.int 1))))) (bS (L3.f2 cM (aN 7) (fC (.str "<")))))) (c7 [~~~.list (rows.map aK),~~~.int (j:Int),~~~.list (x.map qD),~~~.int way,~~~(dr t),~~~(aK r),~~~.int (way*FM.ent r j),~~~.str (f9 kt),~~~(qD v)])=some (FM.better t kt v):=by
    cases t with
    |none=>
     have e0:dr none=.none:=rfl;have er:FM.better none kt v=true:=rfl;rw[er,e0];dsimp![jA]
    |some y=>
     have er:FM.better (some y) kt v=(decide (v<y.2.1) || (decide (v=y.2.1)&&kt)):=rfl;have a2:bA (dr (some y)) (.int 1)=some (qD y.2.1):=rfl;have e1:=mz sn (ht y rfl) hN hN;have e2:=pJ v y.2.1;rw[er];by_cases c1:v<y.2.1
     ·rw[decide_eq_true c1]at e1 ⊢;dsimp![m6,a2,e1,Bool.true_or]
     ·rw[decide_eq_false c1]at e1 ⊢;by_cases c2:v=y.2.1
      ·rw[decide_eq_true c2]at e2 ⊢;cases kt with
       |true=>dsimp![m6,a2,e1,e2,TR,Bool.false_or,Bool.true_and]
       |false=>dsimp![m6,a2,e1,e2,TR,Bool.false_or,Bool.true_and]
      ·rw[decide_eq_false c2]at e2 ⊢;dsimp![m6,a2,e1,e2,Bool.false_or,Bool.false_and]
   cases pY:FM.better t kt v with
   |false=>
    rw[pY]at test eb;rw[if_neg Bool.false_ne_true]at eb;refine⟨[~~~.list (rows.map aK),~~~.int (j:Int),~~~.list (x.map qD),~~~.int way,~~~(dr t),~~~(aK r),~~~.int (way*FM.ent r j),~~~.str (f9 kt),~~~(qD v)],?_,⟨_,_,_,_,by rw[eb]⟩,hQ⟩;rw[nv test];rfl
   |true=>
    rw[pY]at test eb;rw[if_pos rfl]at eb;refine⟨[~~~.list (rows.map aK),~~~.int (j:Int),~~~.list (x.map qD),~~~.int way,~~~(dr (some (kt,v,FM.nh j way x r))),~~~(aK r),~~~.int (way*FM.ent r j),~~~.str (f9 kt),~~~(qD v)],?_,⟨_,_,_,_,by rw[eb]⟩,hQ⟩;rw[nt test];have es:=O7 r.2 (j:=x.length) (by rw[hR.len r hr];omega);have zd:(r.2.drop (x.length+1)).length<sizeLine:=by rw[length_drop,hR.len r hr];exact lt_of_lt_of_le (show m-(x.length+1)<1000 by omega) (sz (by decide))
    have ec:bV (aName 0) fk (kK 2 j7 (bh (aN 0) (bh (aN 1) cG))) [none,some (.int (way*FM.ent r j))] ((r.2.drop (x.length+1)).map .int)=some ((FM.nh j way x r).map qD):=by
     refine de _ _ (by unfold FM.nh;rw[length_map,length_map,length_map]) λi d o h1 h2=>?_;unfold FM.nh at h2;rw[getElem?_map]at h1 h2;rw[getElem?_map]at h2;cases hz:(r.2.drop (x.length+1))[i]? with
     |none=>rw[hz]at h1;cases h1
     |some z=>
      rw[hz]at h1 h2;cases h1;cases h2;refine⟨[(0,.int z)],rfl,?_⟩;have e:=VG (z:=z) h0 (dW (wb r hr) (by omega));simp![e]
    have Yr:dr (some (kt,v,FM.nh j way x r))=.tuple [.str (f9 kt),qD v,.list ((FM.nh j way x r).map qD)]:=rfl;rw[Yr];dsimp![iG,pH,nC,nD,qb,lo,c9,es,length_map,zd,ec,z3]
  ·have eb:FM.kb j way x t r=t:=if_neg hc;refine⟨[~~~.list (rows.map aK),~~~.int (j:Int),~~~.list (x.map qD),~~~.int way,~~~(dr t),~~~(aK r),~~~.int (way*FM.ent r j),x7,x8],?_,⟨_,_,_,_,by rw[eb]⟩,hQ⟩;rw[nv (by
    have h1:¬0<way*FM.ent r j:=λz=>hc (.inl z);by_cases h2:way*FM.ent r j<0
    ·have k1:¬bw r.1="=":=λz=>hc (.inr ⟨h2,(i6 r.1).mp z⟩);dsimp![gS,dh,kJ,cS,eq_false h1,eq_true h2,eq_false k1]
    ·dsimp![gS,dh,kJ,cS,eq_false h1,eq_false h2])]
   rfl
 ·rintro af ⟨x5,x6,x7,x8,rfl⟩;simp![];rfl
abbrev cz (rows:List FM.Row):Dat:=.list (rows.map aK)
theorem Dm(g:α->Dat){xs:List α}{x:α}(hl:xs.length=n+1)(h:xs[n]?=some x):bA (.list (xs.map g)) (.int (-1))=some (g x):=by
 show gD (xs.map g) (-1)=_;unfold L2.gD L2.mO;rw[if_neg (by decide),if_pos (by rw[length_map];omega)];show(xs.map g)[((-1:Int)+((xs.map g).length:Int)).toNat]?=_;rw[length_map,hl,show((-1:Int)+((n+1:Nat):Int)).toNat=n by omega,getElem?_map,h];rfl
theorem tT:∀n:Nat,gN (List.replicate n 0) 0
 |0=>.nil
 |n+1=>.zero rfl (tT n)
abbrev YT (F:List Dat->Option Dat):Prop:=∀(b n m:Nat) (Ls:List (List FM.Row)) (rows:List FM.Row) (way:Int),(way=1\/way=-1)->1<=b->Ls.length=n+1->Ls[n]?=some rows->gY m b rows->n+1<m->m<=900->n<=90->b<=3900000->F [.list (Ls.map cz),.int way]=some (dr (FM.endOf n rows way))/\∀t,FM.endOf n rows way=some t->SR b t.2.1
variable {Ft:List Dat->Option Dat}
theorem Np(T:TX P K mg)(Z1:TC K mg "ZERO_elimination" [.int 0,.int 1] a1)(nN:Dn P w K mg base 45 "tightest" ["rows","place","point","way"] 4 Ft)(hT:Rg Ft)(U:FnAt K mg "end_of" (top 24) ["stages","way"]):
  ∃F,Dn P w K mg base 46 "end_of" ["stages","way"] 2 F/\YT F:=by
 refine⟨_,cO ["stages","way","place"] U λnd _ _ _ _ _ _ _ hr=>
  (ae (aC 2 nd (oy (cX T.len (a6 (a5 0) a9)) a8))
  (ag (ax (ay nN hr (a6 (aj (a5 0) (dw a8)) (a6 (a5 2) (a6 (cE (tw (gZ (a6 (cv Z1.mg Z1.tup) a9)) (eI (a5 2) a8))) (a6 (a5 1) a9) (hs:=cC))) (hs:=aM)))))),?_⟩
 intro b n m Ls rows way iC hb hl hn hR GO oG sP hsz;have lo:=jc cz Ls;have al:=Dm cz hl hn;have er:∀ρ:ar,(L3.f2 kC (aN 2) (fC (.int 1))) ρ=some (.int ((n+1:Nat):Int))->pI (nJ (bh (fC (.tuple [.int 0,.int 1])) cG)) (L3.f2 kC (aN 2) (fC (.int 1))) ρ=some ((List.replicate (n+1) (0:Rat)).map qD):=λρ h=>yP h (by omega);have e1:=hT b 0 m n rows (List.replicate (n+1) 0) way iC hb hR (by rw[length_replicate];omega) oG (by rw[length_replicate];omega) (by omega) (tT _) (by omega);obtain⟨e1,e2⟩:=e1;refine⟨?_,e2⟩;refine bX ?_;simp!;have hp:((Ls.length:Nat):Int)-1=(n:Int):=by omega
 rw[aA (af:=[~~~.list (Ls.map cz),~~~.int way,~~~.int (n:Int)]) (by simp![lo,fS,hp])];have Up:=er (c7 [~~~.list (Ls.map cz),~~~.int way,~~~.int (n:Int)]) rfl;clear er;generalize (List.replicate (n+1) (0:Rat)).map qD=zs at *;generalize pI (nJ (bh (fC (.tuple [.int 0,.int 1])) cG)) (L3.f2 kC (aN 2) (fC (.int 1)))=gr at *;simp only[c7,map_cons,map_nil]at Up;dsimp![al,Up,e1];rfl
variable {Fe:List Dat->Option Dat}
theorem N6(T:TX P K mg)(wU:Dn P w K mg base 46 "end_of" ["stages","way"] 2 Fe)(U:FnAt K mg "upper_end" (top 25) ["stages"]):
  ∃F,Dn P w K mg base 47 "upper_end" ["stages"] 1 F/\∀s d,Fe [s,.int 1]=some d->F [s]=some d:=by
 refine⟨_,cO ["stages"] U λnd _ _ _ _ _ _ _ hr=>
  (ag (ax (ay wU hr (a6 (a5 0) (a6 a8 a9))))),?_⟩
 intro s d h;simp![h]
theorem Qw(T:TX P K mg)(wU:Dn P w K mg base 46 "end_of" ["stages","way"] 2 Fe)(U:FnAt K mg "opposite_end" (top 26) ["stages"]):
  ∃F,Dn P w K mg base 47 "opposite_end" ["stages"] 1 F/\∀s d,Fe [s,.int (-1)]=some d->F [s]=some d:=by
 refine⟨_,cO ["stages"] U λnd _ _ _ _ _ _ _ hr=>
  (ag (ax (ay wU hr (a6 (a5 0) (a6 (dw a8) a9 (hs:=gQ)))))),?_⟩
 intro s d h;simp![h]
def mK:Option (List Rat)->Dat
 |none=>.none
 |some ws=>.list (ws.map qD)
theorem RY(l:List Int)(h:j+2<=l.length):uv (fE l) (some ((j:Int)+2)) none=some (fE (l.drop (j+2))):=by
 have:=O7 l (j:=j+1) h;rw[show((j+1:Nat):Int)+1=(j:Int)+2 by omega]at this;exact this
variable {way:Int}
theorem uf(iC:way=1\/way=-1)(h:z.natAbs<2^b):(way*z).natAbs<2^b:=by
 rcases iC with e|e
 ·rw[e,Int.one_mul];exact h
 ·rw[e,Int.neg_mul,Int.one_mul,natAbs_neg];exact h
variable {rows:List FM.Row}
theorem mW(iC:way=1\/way=-1)(hR:gY m b rows){t:FM.fG}(h:FM.endOf n rows way=some t):SR b t.2.1/\∀w∈t.2.2,SR b w:=by
 obtain⟨⟨r,hr,hc,k1,k2,k3⟩,_⟩:=(FM.jD rows n (List.replicate (n+1) 0) way).some t h;have pv:way*FM.ent r n≠0:=by rcases hc with hc|⟨hc,_⟩<;>omega
 have hb:=uf iC (d6 (j:=n) (hR.bd r hr));have e:FM.lZ r (List.replicate (n+1) 0)=((FM.ent r (n+1):Int):Rat):=FM.xt;rw[k2,k3];unfold FM.dN;rw[e];refine⟨mh pv (d6 (hR.bd r hr)) hb,λw hw=>?_⟩;unfold FM.nh at hw;obtain⟨z,hz,rfl⟩:=mem_map.mp hw;exact mh pv (hR.bd r hr z (List.mem_of_mem_drop hz)) hb
abbrev UX (F:List Dat->Option Dat):Prop:=∀(n:Nat) (k:FM.Kn) (b:Rat),n<=4000000->SR n b->F [.str (bw k),qD b]=some (.bool (FM.cL k b))
def Ci (n:Nat) (r:FM.Row):List Rat:=(r.2.drop (n+2)).map fun(w:Int)=>(((if r.1=.eq/\0<FM.ent r (n+1)then -1 else 1:Int)*w:Int):Rat)
abbrev UN (F:List Dat->Option Dat):Prop:=∀(b n m:Nat) (Ls:List (List FM.Row)) (rows:List FM.Row),1<=b->Ls.length=n+1->Ls[n]?=some rows->gY m b rows->n+2<=m->m<=900->b<=4000000->F [.list (Ls.map cz)]=some (mK (FM.fA n rows))
variable {Fi:List Dat->Option Dat}
theorem Nc(T:TX P K mg)(rL:Dn P w K mg base 44 "is_never" ["kind","bound"] 2 Fi)(hI:UX Fi)(U:FnAt K mg "never_by_a_row" (top 28) ["stages"]):
  ∃F,Dn P w K mg base 45 "never_by_a_row" ["stages"] 1 F/\UN F:=by
 refine⟨_,cO ["stages","place","row","bound","way"] U λnd _ _ _ _ _ _ _ hr=>
  (ae (aC 1 nd (oy (cX T.len (a6 (a5 0) a9)) a8))
  (ae (dI PassesOwn.never rfl (aj (a5 0) (dw a8)) (aq 2 nd)
  (ae (aC 3 nd (aj (aj (a5 2) a8) (eI (a5 1) a8)))
  (ag (bc (cD (fT (cy hr (aj (aj (a5 2) a8) (a5 1)) a8) (f6 (bJ (ay rL hr (a6 (aj (a5 2) a8) (a6 (aX (k:=0) (a6 (a5 3) (a6 a8 a9))) a9 (hs:=cJ)) (hs:=aM))))))) (ae (aC 4 nd (gq (cD (fT (cy hr (aj (a5 2) a8) aT) (f6 (rQ (a5 3) a8)))) (dw a8) a8))
  (ag (ax (cE (gn rfl (fw (tn:=["weight"]) (fv:=["way"]) (js:=[4]) rfl (by decide +kernel) (by decide +kernel) rfl (by decide +kernel) (by decide +kernel) rfl
   (λx hx=>by((have eh:x="way":=(by simpa using hx));(rcases eh with rfl<;>exact⟨_,rfl⟩)))
   (λp hp=>by((have fc:p=(("way" : Str),(4:Nat)):=(by simpa using hp));(rcases fc with rfl<;>exact⟨rfl,.inr (.inl rfl),.inl rfl,λz=>by cases z⟩)))) (hG (aj (a5 2) a8) (iR (eI (a5 1) a8)) iS) (λ_ _ _ _=>(aq 0 (show(["weight","way"]:List Str).Nodup by decide +kernel))) (λ_ _ _ _=>d9) (λ_ _ _ _=>(aX (k:=0) (a6 (bN (a5 1) (a5 0)) (a6 a8 a9) (hs:=cC)))) (cV rfl)))))) aV))))
  (ag (ax cK)))),?_⟩
 intro b n m Ls rows hb hl hn hR GO oG CB;have z2:2<=sizeLine:=sz (by decide);have lo:=jc cz Ls;have al:=Dm cz hl hn;have hp:((Ls.length:Nat):Int)-1=(n:Int):=by omega
 refine bX ?_;simp!;rw[aA (af:=[~~~.list (Ls.map cz),~~~.int (n:Int),none,none,none]) (by simp![lo,fS,hp])];refine(xI (l:=rows) aK (λΓ=>∃x2 x3 x4,Γ=[~~~.list (Ls.map cz),~~~.int (n:Int),x2,x3,x4]) (λr=>decide (FM.ent r n=0)&&FM.cL r.1 (FM.ent r (n+1):Rat)) (λr=>.list ((Ci n r).map qD)) (d:=cz rows) (fl:=λo=>.rt (mK (o.map (Ci n)))) (by dsimp![al]) rfl ⟨none,none,none,rfl⟩ ?_ (λ_=>rfl) ?_)
 ·rintro r hr Γ ⟨x2,x3,x4,rfl⟩;refine⟨[(2,aK r)],rfl,?_⟩;dsimp!;have a0:bA (fE r.2) (.int (n:Int))=some (.int (FM.ent r n)):=gT (by rw[hR.len r hr];omega);have a1:bA (fE r.2) (.int ((n:Int)+1))=some (.int (FM.ent r (n+1))):=gT (j:=n+1) (by rw[hR.len r hr];omega);have hN:Fi [.str (bw r.1),.tuple [.int (FM.ent r (n+1)),.int 1]]=some (.bool (FM.cL r.1 (FM.ent r (n+1):Rat))):=hI b r.1 _ CB (Ku hb (d6 (hR.bd r hr)));rw[aA (af:=[~~~.list (Ls.map cz),~~~.int (n:Int),~~~(aK r),~~~.int (FM.ent r (n+1)),x4]) (by dsimp![iG,c9,a1])];by_cases c1:FM.ent r n=0
  ·cases c2:FM.cL r.1 (FM.ent r (n+1):Rat)with
   |false=>
    rw[c2]at hN;rw[if_neg (by rw[Bool.and_false];exact Bool.false_ne_true)];refine⟨[~~~.list (Ls.map cz),~~~.int (n:Int),~~~(aK r),~~~.int (FM.ent r (n+1)),x4],?_,_,_,_,rfl⟩;dsimp![kJ,iG,a0,fq,eq_true c1,hN,z2]
   |true=>
    rw[c2]at hN;rw[if_pos (by rw[decide_eq_true c1];rfl)];rw[nt (by dsimp![kJ,iG,a0,fq,eq_true c1,hN,z2])];have es:=RY r.2 (j:=n) (by rw[hR.len r hr];omega);have zd:(r.2.drop (n+2)).length<sizeLine:=by rw[length_drop,hR.len r hr];exact lt_of_lt_of_le (show m-(n+2)<1000 by omega) (sz (by decide))
    have fin:∀way:Int,(way=1\/way=-1)->bV (aName 0) fk (kx (bh (L3.f2 jK (aN 1) (aN 0)) (bh (fC (.int 1)) cG))) [none,some (.int way)] ((r.2.drop (n+2)).map .int)=some (((r.2.drop (n+2)).map fun(w:Int)=>((way*w:Int):Rat)).map qD):=by
     intro way iC;refine de _ _ (by rw[length_map,length_map,length_map]) λi d o h1 h2=>?_;rw[getElem?_map]at h1 h2;rw[getElem?_map]at h2;cases hz:(r.2.drop (n+2))[i]? with
     |none=>rw[hz]at h1;cases h1
     |some z=>
      rw[hz]at h1 h2;cases h1;cases h2;refine⟨[(0,.int z)],rfl,?_⟩;have em:jK (.int way) (.int z)=some (.int (way*z)):=mulL _ (by rcases iC with e|e<;>(rw[e];decide)) (by rcases iC with e|e<;>(rw[e];decide));have eq:qD ((way*z:Int):Rat)=.tuple [.int (way*z),.int 1]:=qI _;simp![em,eq,z2]
    by_cases c3:r.1=.eq/\0<FM.ent r (n+1)
    ·have k1:=(i6 r.1).mpr c3.1;rw[aA (af:=[~~~.list (Ls.map cz),~~~.int (n:Int),~~~(aK r),~~~.int (FM.ent r (n+1)),~~~.int (-1)]) (by dsimp![kJ,cS,eq_true k1,gS,eq_true c3.2])];have ew:Ci n r=(r.2.drop (n+2)).map fun(w:Int)=>(((-1:Int)*w:Int):Rat):=by unfold Ci;rw[if_pos c3]
     rw[ew];have ec:=fin (-1) (.inr rfl);dsimp![iG,pH,nC,nD,qb,c9,es,length_map,zd,ec]
    ·rw[aA (af:=[~~~.list (Ls.map cz),~~~.int (n:Int),~~~(aK r),~~~.int (FM.ent r (n+1)),~~~.int 1]) (by
      by_cases c4:r.1=.eq
      ·have k1:=(i6 r.1).mpr c4;have c5:¬0<FM.ent r (n+1):=λz=>c3 ⟨c4,z⟩;dsimp![kJ,cS,eq_true k1,gS,eq_false c5]
      ·have k1:¬bw r.1="=":=λz=>c4 ((i6 r.1).mp z);dsimp![kJ,cS,eq_false k1])]
     have ew:Ci n r=(r.2.drop (n+2)).map fun(w:Int)=>(((1:Int)*w:Int):Rat):=by unfold Ci;rw[if_neg c3]
     rw[ew];have ec:=fin 1 (.inl rfl);dsimp![iG,pH,nC,nD,qb,c9,es,length_map,zd,ec]
  ·rw[if_neg (by rw[decide_eq_false c1];exact Bool.false_ne_true)];refine⟨[~~~.list (Ls.map cz),~~~.int (n:Int),~~~(aK r),~~~.int (FM.ent r (n+1)),x4],?_,_,_,_,rfl⟩;dsimp![kJ,iG,a0,fq,eq_false c1]
 ·rintro af ⟨x2,x3,x4,rfl⟩;simp![mK,map_none]
theorem Kf:∀(xs ys:List Rat),dF (xs.map qD) (ys.map qD)=(xs.zip ys).map λz=>Dat.tuple [qD z.1,qD z.2]
 |[],ys=>by simp[dF]
 |x::xs,[]=>by simp[dF]
 |x::xs,y::ys=>by simp only[map_cons,dF,zip_cons_cons,Kf xs ys]
abbrev UM (F:List Dat->Option Dat):Prop:=∀(b n m:Nat) (Ls:List (List FM.Row)) (rows:List FM.Row),1<=b->Ls.length=n+1->Ls[n]?=some rows->gY m b rows->n+2<=m->m<=900->n<=90->b<=1900000->F [.list (Ls.map cz)]=some (mK (FM.fI n rows))
abbrev AM (way:Int) (F:List Dat->Option Dat):Prop:=∀(b n m:Nat) (Ls:List (List FM.Row)) (rows:List FM.Row),1<=b->Ls.length=n+1->Ls[n]?=some rows->gY m b rows->n+1<m->m<=900->n<=90->b<=1900000->F [.list (Ls.map cz)]=some (dr (FM.endOf n rows way))
theorem Bx(hl:∀r∈rows,r.2.length=m){t:FM.fG}(h:FM.endOf n rows way=some t):t.2.2.length=m-(n+2):=by
 obtain⟨⟨r,hr,hc,k1,k2,k3⟩,_⟩:=(FM.jD rows n (List.replicate (n+1) 0) way).some t h;rw[k3];unfold FM.nh;rw[length_map,length_drop,hl r hr,length_replicate]
variable {Fu:List Dat->Option Dat}
theorem JM(T:TX P K mg){Fo:List Dat->Option Dat}(kG:Dn P w K mg base 47 "upper_end" ["stages"] 1 Fu)(hU:AM 1 Fu)(lP:Dn P w K mg base 47 "opposite_end" ["stages"] 1 Fo)(hO:AM (-1) Fo)(rL:Dn P w K mg base 47 "is_never" ["kind","bound"] 2 Fi)(hI:UX Fi)(vA:Dn P w K mg base 47 "plus" ["a","b"] 2 j6)(U:FnAt K mg "never_by_ends" (top 29) ["stages"]):
  ∃F,Dn P w K mg base 48 "never_by_ends" ["stages"] 1 F/\UM F:=by
 refine⟨_,cO ["stages","top","bottom","kind"] U λnd _ _ _ _ _ _ _ hr=>
  (ae (aC 1 nd (ay kG hr (a6 (a5 0) a9)))
  (ae (aC 2 nd (ay lP hr (a6 (a5 0) a9)))
  (ae (bc (cD (cW (dM (a5 1) cK) (d7 (dM (a5 2) cK)))) (ag (ax cK)) aV)
  (ae (aC 3 nd (gq (C0 aT (aX (k:=0) (a6 (aj (a5 1) a8) (a6 (aj (a5 2) a8) a9 (hs:=aM)) (hs:=aM)))) aT aT))
  (ae (bc (bJ (ay rL hr (a6 (a5 3) (a6 (ay vA hr (a6 (aj (a5 1) a8) (a6 (aj (a5 2) a8) a9 (hs:=aM)) (hs:=aM))) a9 (hs:=aZ))))) (ag (ax (cE (kj rfl (j4 (N':=["a","b"])) (mI T.zip (a6 (aj (a5 1) a8) (a6 (aj (a5 2) a8) a9 (hs:=aM)) (hs:=aM))) (λ_ _ _ _=>(c8 (n:=2) rfl (aI (aq 0 (show(["a","b"]:List Str).Nodup by decide +kernel)) (aI (aq 1 (show(["a","b"]:List Str).Nodup by decide +kernel)) bQ)))) (λ_ _ _ _=>d9) (λ_ _ _ _=>(ay vA hr (a6 (a5 0) (a6 (a5 1) a9)))) (uh rfl rfl))))) aV)
  (ag (ax cK))))))),?_⟩
 intro b n m Ls rows hb hl hn hR GO oG sP hsz;have z2:2<=sizeLine:=sz (by decide);have eu:=hU b n m Ls rows hb hl hn hR (by omega) oG sP hsz;have eo:=hO b n m Ls rows hb hl hn hR (by omega) oG sP hsz;refine bX ?_;simp!;rw[aA (af:=[~~~.list (Ls.map cz),~~~(dr (FM.endOf n rows 1)),none,none]) (by dsimp![eu])];rw[aA (af:=[~~~.list (Ls.map cz),~~~(dr (FM.endOf n rows 1)),~~~(dr (FM.endOf n rows (-1))),none]) (by dsimp![eo])];have nE:FM.fI n rows=(match FM.endOf n rows 1,FM.endOf n rows (-1)with
  |some t,some b=>if FM.cL (if t.1=true\/b.1=true then .lt else .le) (t.2.1+b.2.1)=true then some (zipWith (λx y=>x+y) t.2.2 b.2.2)else none
  |_,_=>none):=rfl
 rw[nE];cases ht:FM.endOf n rows 1 with
 |none=>
  have e0:dr none=.none:=rfl;rw[e0];dsimp![jA,mK]
 |some t=>
  cases ho:FM.endOf n rows (-1)with
  |none=>
   have e0:dr none=.none:=rfl;rw[e0];dsimp![jA,m6,mK]
  |some o=>
   obtain⟨s1,s2⟩:=mW (.inl rfl) hR ht;obtain⟨s3,s4⟩:=mW (.inr rfl) hR ho;have w1:=Bx hR.len ht;have w2:=Bx hR.len ho;have CB:b+b+1<=4000000:=by omega
   have t0:bA (dr (some t)) (.int 0)=some (.str (f9 t.1)):=rfl;have t1:bA (dr (some t)) (.int 1)=some (qD t.2.1):=rfl;have t2:bA (dr (some t)) (.int 2)=some (.list (t.2.2.map qD)):=rfl;have o0:bA (dr (some o)) (.int 0)=some (.str (f9 o.1)):=rfl;have o1:bA (dr (some o)) (.int 1)=some (qD o.2.1):=rfl;have o2:bA (dr (some o)) (.int 2)=some (.list (o.2.2.map qD)):=rfl;have ei:inD (.str "<") (.tuple [.str (f9 t.1),.str (f9 o.1)])=some (.bool (decide (t.1=true\/o.1=true))):=by
    cases t.1<;>cases o.1<;>rfl
   have ep:=lG s1 s3 (by omega) (by omega);have eN:=hI (b+b+1) (if t.1=true\/o.1=true then .lt else .le) (t.2.1+o.2.1) CB (s1.add s3);show _=some (Fl.rt (mK (if FM.cL (if t.1=true\/o.1=true then .lt else .le) (t.2.1+o.2.1)=true then some (zipWith (λx y=>x+y) t.2.2 o.2.2)else none)));rw[aA (af:=[~~~.list (Ls.map cz),~~~(dr (some t)),~~~(dr (some o)),none]) (by dsimp![m6])];rw[aA (af:=[~~~.list (Ls.map cz),~~~(dr (some t)),~~~(dr (some o)),~~~.str (bw (if t.1=true\/o.1=true then .lt else .le))]) (by
    by_cases c:t.1=true\/o.1=true
    ·rw[decide_eq_true c]at ei;rw[if_pos c];have ks:bw .lt="<":=rfl;dsimp![t0,o0,ei,z2,ks]
    ·rw[decide_eq_false c]at ei;rw[if_neg c];have ks:bw .le="<=":=rfl;dsimp![t0,o0,ei,z2,ks])]
   generalize (if t.1=true\/o.1=true then FM.Kn.lt else .le)=kn at *;cases c2:FM.cL kn (t.2.1+o.2.1)with
   |false=>
    rw[c2]at eN;rw[if_neg Bool.false_ne_true];dsimp![t1,o1,ep,eN,mK]
   |true=>
    rw[c2]at eN;rw[if_pos rfl];have zl:(t.2.2.zip o.2.2).length<sizeLine:=by rw[length_zip,w1,w2];exact lt_of_lt_of_le (show min (m-(n+2)) (m-(n+2))<1000 by omega) (sz (by decide))
    have ec:bV (jQ 2 (fF (aName 0) (fF (aName 1) lM))) fk (kK 2 j6 (bh (aN 0) (bh (aN 1) cG))) [none,none] ((t.2.2.zip o.2.2).map λz=>Dat.tuple [qD z.1,qD z.2])=some ((zipWith (λx y=>x+y) t.2.2 o.2.2).map qD):=by
     have es:zipWith (λx y=>x+y) t.2.2 o.2.2=(t.2.2.zip o.2.2).map λz=>z.1+z.2:=by rw[List.zip,List.map_zipWith]
     rw[es];refine de _ _ (by rw[length_map,length_map,length_map]) λi d o' g1 g2=>?_;rw[getElem?_map]at g1 g2;rw[getElem?_map]at g2;cases hq:(t.2.2.zip o.2.2)[i]? with
     |none=>rw[hq]at g1;cases g1
     |some z=>
      rw[hq]at g1 g2;cases g1;cases g2;obtain⟨Pw,Pu⟩:=of_mem_zip (mem_of_getElem? hq);refine⟨[(0,qD z.1),(1,qD z.2)],rfl,?_⟩;have e1:=lG (s2 z.1 Pw) (s4 z.2 Pu) (by omega) (by omega);simp![e1]
    dsimp![t1,t2,o1,o2,ep,eN,fB,Kf,length_map,zl,ec,mK]
abbrev UJ (F:List Dat->Option Dat):Prop:=∀(b n m:Nat) (Ls:List (List FM.Row)) (rows:List FM.Row),1<=b->Ls.length=n+1->Ls[n]?=some rows->gY m b rows->n+2<=m->m<=900->n<=90->b<=1900000->F [.list (Ls.map cz)]=some (mK (FM.never n rows))
theorem Nb(T:TX P K mg){Fr:List Dat->Option Dat}(vB:Dn P w K mg base 48 "never_by_a_row" ["stages"] 1 Fr)(hR:UN Fr)(wM:Dn P w K mg base 48 "never_by_ends" ["stages"] 1 Fe)(hE:UM Fe)(U:FnAt K mg "never" (top 30) ["stages"]):
  ∃F,Dn P w K mg base 49 "never" ["stages"] 1 F/\UJ F:=by
 refine⟨_,cO ["stages","weights"] U λnd _ _ _ _ _ _ _ hr=>
  (ae (aC 1 nd (ay vB hr (a6 (a5 0) a9)))
  (ag (ax (gq (dM (a5 1) cK) (ay wM hr (a6 (a5 0) a9)) (a5 1))))),?_⟩
 intro b n m Ls rows hb hl hn fX GO oG sP hsz;have e1:=hR b n m Ls rows hb hl hn fX GO oG (by omega);have e2:=hE b n m Ls rows hb hl hn fX GO oG sP hsz;have nE:FM.never n rows=(match FM.fA n rows with
  |some w=>some w
  |none=>FM.fI n rows):=rfl
 rw[nE];cases hw:FM.fA n rows with
 |none=>
  rw[hw]at e1;have e0:mK none=.none:=rfl;rw[e0]at e1;simp![e1,jA,e2]
 |some ws=>
  rw[hw]at e1;have e0:mK (some ws)=.list (ws.map qD):=rfl;rw[e0]at e1;have n0:pg (.list (ws.map qD)) .none=some (.bool false):=rfl;simp![e1,n0,e0]
theorem MW{g x:Int}(h:g∣x):(x.fdiv g).natAbs<=x.natAbs:=by
 obtain⟨c,rfl⟩:=h;by_cases g0:g=0
 ·rw[g0];simp
 ·rw[mul_comm,Int.mul_fdiv_cancel _ g0,natAbs_mul];exact Nat.le_mul_of_pos_right _ (by omega)
theorem zD{one other:List Int}{bR more:Int}(h1:∀x∈one,x.natAbs<2^b)(h2:∀x∈other,x.natAbs<2^b)(h3:bR.natAbs<2^b)(h4:more.natAbs<2^b):∀x∈FM.mixed one bR other more,x.natAbs<2^(2*b+1):=by
 intro x hx;obtain⟨y,hy,rfl⟩:=mem_map.mp (show x∈(FM.fV one bR other more).map (λx=>x.fdiv (FM.lowG (FM.fV one bR other more):Int))from hx);refine lt_of_le_of_lt (MW (FM.mM hy)) ?_;obtain⟨p,hp,q,hq,rfl⟩:=jv (show y∈zipWith (λa b=>bR*a+more*b) one other from hy);rw[show 2*b=b+b by omega];exact rz (cT h3 (h1 p hp)) (cT h4 (h2 q hq))
theorem Ck{most:Nat}{aE:List Nat}(hR:gY m b rows):gY m (2*b+1) (FM.d8 aE j most rows):=by
 have up:∀{x:Int},x.natAbs<2^b->x.natAbs<2^(2*b+1):=λh=>dW h (by omega);unfold FM.d8;split
 ·refine⟨λr hr=>?_,λr hr x hx=>?_⟩
  ·rcases FM.i4.mp hr with⟨h1,h2⟩|⟨u,hu,l,hl,pu,pl,_,e⟩
   ·exact hR.len r h1
   ·rw[e];show(FM.mixed u.2 _ l.2 _).length=_;rw[FM.nF (by rw[hR.len u hu,hR.len l hl]),hR.len u hu]
  ·rcases FM.i4.mp hr with⟨h1,h2⟩|⟨u,hu,l,hl,pu,pl,_,e⟩
   ·exact up (hR.bd r h1 x hx)
   ·rw[e]at hx;exact zD (hR.bd u hu) (hR.bd l hl) (by rw[natAbs_neg];exact d6 (hR.bd l hl)) (d6 (hR.bd u hu)) x hx
 ·rename_i q hq;have hm:=mem_of_find?_eq_some hq;refine⟨λr hr=>?_,λr hr x hx=>?_⟩
  ·obtain⟨s,hs,rfl⟩:=mem_map.mp hr;have hs:=(mem_filter.mp hs).1;show(FM.mixed s.2 _ q.2 _).length=_;rw[FM.nF (by rw[hR.len s hs,hR.len q hm]),hR.len s hs]
  ·obtain⟨s,hs,rfl⟩:=mem_map.mp hr;have hs:=(mem_filter.mp hs).1;exact zD (hR.bd s hs) (hR.bd q hm) (by rw[natAbs_natCast];exact d6 (hR.bd q hm)) (by split<;>(try rw[natAbs_neg])<;>exact d6 (hR.bd s hs)) x hx
theorem FF{M:Nat}(aE:List Nat):∀(m j most b:Nat) (rows:List FM.Row),gY M b rows->∀i,i<=m->∃rs,(FM.lX aE m j most rows)[i]?=some rs/\gY M (FM.bt b i) rs
 |0,j,most,b,rows,h,i,hi=>by
  have:i=0:=by omega
  subst this;exact⟨rows,rfl,h⟩
 |m+1,j,most,b,rows,h,0,hi=>⟨rows,rfl,h⟩
 |m+1,j,most,b,rows,h,i+1,hi=>FF aE m (j+1) _ (2*b+1) _ (Ck h) i (by omega)
theorem vN(aE:List Nat):∀(m j most:Nat) (rows:List FM.Row),(FM.lX aE m j most rows).length=m+1
 |0,j,most,rows=>rfl
 |m+1,j,most,rows=>by
  show(FM.lX aE m (j+1) _ _).length+1=_;rw[vN]
variable {e:Nat}
theorem yu{k:FM.Kn}{qs:List Rat}(hq:∀q∈qs,SR c q)(hP:fu qs<2^e):∀x∈(FM.whole k qs).2,x.natAbs<2^(c+e):=by
 have hL:FM.iB qs<2^e:=by
  have:=vZ qs 1 (by decide);rw[one_mul]at this;exact lt_of_le_of_lt this hP
 intro x hx;obtain⟨q,sN,rfl⟩:=mem_map.mp (show x∈qs.map (λq=>q.num*((FM.iB qs/q.den:Nat):Int))from hx);exact cT (hq q sN).ln (by rw[natAbs_natCast];exact lt_of_le_of_lt (Nat.div_le_self _ _) hL)
theorem Lz{c e n k:Nat}(kv:1<=c):∀(l:List FM.Ol) (i:Nat),(∀o∈l,wL c e n o)->∀r∈FM.cB k i l,∀x∈r.2,x.natAbs<2^(c+e)
 |[],i,_,r,hr=>by simp[FM.cB]at hr
 |o::l,i,h,r,hr=>by
  rcases mem_cons.mp (show r∈FM.whole o.1 (o.2.1++[0,o.2.2]++FM.dD k i)::FM.cB k (i+1) l from hr)with e|hr
  ·subst e;have ho:=h o mem_cons_self;refine yu (λq hq=>?_) ?_
   ·rcases mem_append.mp hq with h|h
    ·rcases mem_append.mp h with h|h
     ·exact ho.sq q h
     ·rcases mem_cons.mp h with h|h
      ·rw[h];exact kf kv
      ·rw[mem_singleton.mp h];exact ho.bd
    ·rcases oR h with e|e
     ·rw[e];exact kf kv
     ·rw[e];exact xa kv
   ·rw[jg,jg,oJ (a:=FM.dD k i) (λq hq=>by rcases oR hq with e|e<;>(rw[e];rfl)),mul_one];show fu o.2.1*(1*(o.2.2.den*1))<_;rw[one_mul,mul_one];exact ho.dn
  ·exact Lz kv l (i+1) (λo ho=>h o (mem_cons_of_mem _ ho)) r hr
variable {p:List Rat} {os:List FM.Ol}
theorem Al(kv:1<=c)(lQ:∀q∈p,SR c q)(A3:fu p<2^e)(bx:∀o∈os,wL c e p.length o):gY (p.length+2+os.length) (c+e) (FM.bo p os):=by
 refine⟨(FM.tP λo ho=>(bx o ho).len).len,λr hr=>?_⟩;unfold FM.bo at hr;rcases mem_append.mp hr with h|h
 ·exact Lz kv os 0 bx r h
 ·rw[mem_singleton.mp h];refine yu (λq hq=>?_) ?_
  ·rcases mem_append.mp hq with h|h
   ·rcases mem_append.mp h with h|h
    ·obtain⟨x,hx,rfl⟩:=mem_map.mp h;exact gx (lQ x hx)
    ·rcases mem_cons.mp h with h|h
     ·rw[h];exact xa kv
     ·rw[mem_singleton.mp h];exact kf kv
   ·rw[(mem_replicate.mp h).2];exact kf kv
  ·rw[jg,jg,oJ (a:=List.replicate os.length 0) (λq hq=>by rw[(mem_replicate.mp hq).2];rfl),mul_one,sk];show fu p*1<_;rw[mul_one];exact A3
theorem N2(a b:FM.Row):eqB (aK a) (aK b)=some (decide (a=b)):=by
 have h:eqB (aK a) (aK b)=if kqdOk 9 (aK a)=true/\kqdOk 9 (aK b)=true then some (lL (aK a) (aK b))else none:=rfl;rw[h,if_pos ⟨mj (uP a.1),mj (uP b.1)⟩];congr 1
 by_cases e:a=b
 ·rw[lB (by rw[e]),decide_eq_true e]
 ·rw[lC (λz=>e (BQ z)),decide_eq_false e]
theorem MO(a b:FM.Row):gK (aK a) (aK b)=some (.bool (!decide (a=b))):=by unfold gK;rw[N2];rfl
theorem yx{os:List FM.Ol}{n:Nat}:∀(l:List FM.Ol) (i:Nat),(∀t,t<l.length->os[i+t]?=l[t]?)->((eN i l).filter λp=>!decide (p.2.1=.eq)).map (λp=>nat (n+2+p.1))=(((range' i l.length).filter λi=>FM.jO os i).map λi=>n+2+i).map nat
 |[],i,_=>rfl
 |o::l,i,h=>by
  have ih:=yx l (i+1) (n:=n) (os:=os) λt ht=>by
   have:=h (t+1) (by rw[length_cons];omega);rw[show i+1+t=i+(t+1) by omega];exact this
  have h0:=h 0 (by rw[length_cons];omega);have hk:FM.knd os i=o.1:=by
   unfold FM.knd;rw[getD_eq_getElem?_getD,show i=i+0 by omega,h0];rfl
  have hj:FM.jO os i=!decide (o.1=.eq):=by unfold FM.jO;rw[hk,decide_not]
  rw[length_cons,List.range'_succ];show(((i,o)::eN (i+1) l).filter _).map _=_;rw[filter_cons,filter_cons];show(if(!decide (o.1=.eq))=true then _ else _:List (Nat×FM.Ol)).map _=_;rw[hj];by_cases c:(!decide (o.1=.eq))=true
  ·rw[if_pos c,if_pos c,map_cons,map_cons,map_cons,ih]
  ·rw[if_neg c,if_neg c,ih]
abbrev Ux (F:List Dat->Option Dat):Prop:=∀(c e:Nat) (p:List Rat) (os:List FM.Ol),1<=c->c<=3000000->e<=4000000->p.length<=50->os.length<=100->(∀q∈p,SR c q)->fu p<2^e->(∀o∈os,wL c e p.length o)->FM.bt (c+e) p.length<=4400000->FM.cb (os.length+1) p.length<sizeLine->F [.tuple (p.map qD),.list (os.map ao)]=some (.list ((FM.bG p os).map cz))
variable {Ff Fp:List Dat->Option Dat}
theorem JK(T:TX P K mg){Fw:List Dat->Option Dat}(Bu:Dn P w K mg base 45 "first_rows" ["parts","others"] 2 Ff)(hF:UZ Ff)(EO:Dn P w K mg base 45 "equal_row" ["rows","place"] 2 Fe)(hE:∀(rows:List FM.Row) (j m:Nat),(∀r∈rows,r.2.length=m)->j<m->Fe [.list (rows.map aK),.int (j:Int)]=some (tB (FM.eM j rows)))(NC:Dn P w K mg base 45 "paired" ["rows","place","weighed","most"] 4 Fp)(hP:UG Fp)(K8:Dn P w K mg base 45 "without" ["row","equal","place"] 3 Fw)(hW:Uu Fw)(U:FnAt K mg "stages_of" (top 21) ["parts","others"]):
  ∃F,Dn P w K mg base 46 "stages_of" ["parts","others"] 2 F/\Ux F:=by
 refine⟨_,cO ["parts","others","rows","ahead","weighed","most","stages","place","equal"] U λnd _ _ _ _ _ _ _ hr=>
  (ae (aC 2 nd (ay Bu hr (a6 (a5 0) (a6 (a5 1) a9))))
  (ae (aC 3 nd (eI (cX T.len (a6 (a5 0) a9)) a8))
  (ae (p0 4 nd rfl (fw (tn:=["place","other"]) (fv:=["ahead"]) (js:=[3]) rfl (by decide +kernel) (by decide +kernel) rfl (by decide +kernel) (by decide +kernel) rfl
   (λx hx=>by((have eh:x="ahead":=(by simpa using hx));(rcases eh with rfl<;>exact⟨_,rfl⟩)))
   (λp hp=>by((have fc:p=(("ahead" : Str),(3:Nat)):=(by simpa using hp));(rcases fc with rfl<;>exact⟨rfl,.inr (.inl rfl),.inl rfl,λz=>by cases z⟩)))) (qy T.enumerate (a6 (a5 1) a9)) (λ_ _ _ _=>(c8 (n:=2) rfl (aI (aq 0 (show(["place","other","ahead"]:List Str).Nodup by decide +kernel)) (aI (aq 1 (show(["place","other","ahead"]:List Str).Nodup by decide +kernel)) bQ)))) (λ_ _ _ _=>(jS (dg hr (aj (a5 1) a8) aT))) (λ_ _ _ _=>(eI (a5 2) (a5 0))) (uh rfl rfl))
  (ae (aC 5 nd a8)
  (ae (kQ 6 nd (gZ a9))
  (ae (DP PassesOwn.never rfl T.range (a6 (cX T.len (a6 (a5 0) a9)) a9 (hs:=aZ)) (aq 7 nd) (ae (ir 6 (a5 2))
  (ae (aC 8 nd (ay EO hr (a6 (a5 2) (a6 (a5 7) a9))))
  (ag (bc (dM (a5 8) cK) (ae (aC 5 nd (eI (a5 5) a8))
  (ag (aC 2 nd (ay NC hr (a6 (a5 2) (a6 (a5 7) (a6 (a5 4) (a6 (a5 5) a9)))))))) (ag (qx 2 nd rfl (fw (tn:=["row"]) (fv:=["place","equal"]) (js:=[7,8]) rfl (by decide +kernel) (by decide +kernel) rfl (by decide +kernel) (by decide +kernel) rfl
   (λx hx=>by((have eh:x="place"\/x="equal":=(by simpa using hx));(rcases eh with rfl|rfl<;>exact⟨_,rfl⟩)))
   (λp hp=>by((have fc:p=(("place" : Str),(7:Nat))\/p=(("equal" : Str),(8:Nat)):=(by simpa using hp));(rcases fc with rfl|rfl<;>exact⟨rfl,.inr (.inl rfl),.inl rfl,λz=>by cases z⟩)))) (a5 2) (λ_ _ _ _=>(aq 0 (show(["row","place","equal"]:List Str).Nodup by decide +kernel))) (λ_ _ _ _=>(jS (dg hr (a5 0) (a5 2)))) (λ_ _ _ _=>(ay K8 hr (a6 (a5 0) (a6 (a5 2) (a6 (a5 1) a9))))) (cV rfl))))))))
  (ae (ir 6 (a5 2))
  (ag (ax (a5 6)))))))))),?_⟩
 intro c e p os kv hc he hp fW lQ A3 bx pY xE;have z0:0<=sizeLine:=zero_le _;have hlen:∀o∈os,o.2.1.length=p.length:=λo ho=>(bx o ho).len;have lp:kU [.tuple (p.map qD)]=some (.int p.length):=by show some (Dat.int ((p.map qD).length:Nat))=_;rw[length_map]
 have eF:=hF c e p os kv hc he (by omega) fW lQ A3 bx;generalize GK:FM.cH p.length os.length (FM.jO os)=wd;have GJ:wd.length<=900:=by
  rw[<- GK];unfold FM.cH;rw[length_map];have:=length_filter_le (λi=>FM.jO os i) (List.range os.length);rw[length_range]at this;omega
 have Py:∀q∈wd,q<p.length+2+os.length:=λq hq=>by
  rw[<- GK]at hq;unfold FM.cH at hq;obtain⟨i,hi,rfl⟩:=mem_map.mp hq;have:=List.mem_range.mp (mem_filter.mp hi).1;omega
 refine bX ?_;simp!;rw[aA (af:=[~~~.tuple (p.map qD),~~~.list (os.map ao),~~~.list ((FM.bo p os).map aK),none,none,none,none,none,none]) (by simp![eF])];rw[aA (af:=[~~~.tuple (p.map qD),~~~.list (os.map ao),~~~.list ((FM.bo p os).map aK),~~~.int ((p.length:Int)+2),none,none,none,none,none]) (by simp![lp,c9])];have zn:os.length<sizeLine:=lt_of_lt_of_le (show os.length<1000 by omega) (sz (by decide));have v3:qQ (bh (aN 1) cG) (bj [~~~.tuple (p.map qD),~~~.list (os.map ao),~~~.list ((FM.bo p os).map aK),~~~.int ((p.length:Int)+2),none,none,none,none,none])=some ((eN 0 os).map CZ):=by
  rw[<- En];rfl
 have ec:bV (jQ 2 (fF (aName 0) (fF (aName 1) lM))) (bS (L3.f2 gK (L3.f2 bA (aN 1) (fC (.int 0))) (fC (.str "=")))) (L3.f2 kC (aN 2) (aN 0)) [none,none,some (.int ((p.length:Int)+2))] ((eN 0 os).map CZ)=some (wd.map nat):=by
  rw[i9 CZ (λq=>nat (p.length+2+q.1)) (λq=>!decide (q.2.1=.eq)) (eN 0 os) (λq hq=>?_)]
  ·rw[yx os 0 (λt _=>by rw[zero_add]),<- GK];unfold FM.cH;rw[List.range_eq_range']
  ·refine⟨[(0,.int (q.1:Int)),(1,ao q.2)],rfl,?_,λ_=>?_⟩
   ·have e0:bA (ao q.2) (.int 0)=some (.str (bw q.2.1)):=rfl;by_cases ck:q.2.1=.eq
    ·have k1:=(i6 q.2.1).mpr ck;rw[decide_eq_true ck];dsimp![e0,jJ,eq_true k1]
    ·have k1:¬bw q.2.1="=":=λz=>ck ((i6 q.2.1).mp z);rw[decide_eq_false ck];dsimp![e0,jJ,eq_false k1]
   ·have en:nat (p.length+2+q.1)=.int ((p.length:Int)+2+(q.1:Int)):=rfl;rw[en];simp![c9]
 rw[aA (af:=[~~~.tuple (p.map qD),~~~.list (os.map ao),~~~.list ((FM.bo p os).map aK),~~~.int ((p.length:Int)+2),~~~.list (wd.map nat),none,none,none,none]) (BN (AD v3 (by rw[length_map,Aq];exact zn) ec))];rw[aA (af:=[~~~.tuple (p.map qD),~~~.list (os.map ao),~~~.list ((FM.bo p os).map aK),~~~.int ((p.length:Int)+2),~~~.list (wd.map nat),~~~.int 1,none,none,none]) (by simp![])];rw[aA (af:=[~~~.tuple (p.map qD),~~~.list (os.map ao),~~~.list ((FM.bo p os).map aK),~~~.int ((p.length:Int)+2),~~~.list (wd.map nat),~~~.int 1,some (.own ([])),none,none]) (by simp![z0])];have PJ:jI [.int ((p.length:Nat):Int)]=some ((range' 0 p.length).map nat):=by
  rw[DJ p.length (by omega)];unfold gH;rw[List.range_eq_range'];congr 1
  exact map_congr_left λi _=>by rw[Int.zero_add]
 refine gm (I:=_) (Hh (as:=[.int ((p.length:Nat):Int)]) (l:=range' 0 p.length) (s:=((FM.bo p os,1,[]):FM.Nx)) nat (fun(s:FM.Nx) Γ=>∃x7 x8,Γ=[~~~.tuple (p.map qD),~~~.list (os.map ao),~~~.list (s.1.map aK),~~~.int ((p.length:Int)+2),~~~.list (wd.map nat),~~~.int (s.2.1:Int),some (.own (s.2.2.map cz)),x7,x8])
  (λs l=>∃(j m b r:Nat) (E:List Nat) (B:Nat->Nat->Rat) (β:Nat->Rat),l=range' j m/\j+m=p.length/\s.2.1=E.length+1/\FM.Rs p.length os.length s.1/\FM.Sg p.length os.length j (FM.jO os) (FM.sO os) E B β (s.1.map (FM.aG p.length))/\gY (p.length+2+os.length) b s.1/\s.1.length<=r/\FM.bt b m<=4400000/\FM.cb r m<sizeLine/\s.2.2.length<=j)
  (FM.dG wd) (by simp![lp]) PJ ⟨0,p.length,c+e,os.length+1,[],_,_,rfl,by omega,rfl,FM.tP hlen,FM.Ak hlen,Al kv lQ A3 bx,by
   unfold FM.bo;rw[length_append,Am];exact le_refl _,pY,xE,le_refl _⟩ ⟨none,none,rfl⟩ ?_) ?_
 ·rintro⟨rows,most,acc⟩ j0 l Γ ⟨j,m,b,r,E,B,β,hl,hjm,Lc,Lo,Ln,fX,zU,CB,TZ,w9⟩ ⟨x7,x8,rfl⟩;cases m with
  |zero=>cases hl
  |succ m=>
   rw[List.range'_succ]at hl;obtain⟨rfl,rfl⟩:=List.cons.inj hl;dsimp only at Lc Lo Ln fX zU w9;have TH:=FM.Cj Lo Ln (by omega) Lc;rw[GK]at TH;obtain⟨W5,⟨E',B',ER,W4,xC⟩,_⟩:=TH;have hQ:∃(j m2 b r:Nat) (E:List Nat) (B:Nat->Nat->Rat) (β:Nat->Rat),range' (j0+1) m=range' j m2/\j+m2=p.length/\(FM.dG wd (rows,most,acc) j0).2.1=E.length+1/\FM.Rs p.length os.length (FM.dG wd (rows,most,acc) j0).1/\FM.Sg p.length os.length j (FM.jO os) (FM.sO os) E B β ((FM.dG wd (rows,most,acc) j0).1.map (FM.aG p.length))/\gY (p.length+2+os.length) b (FM.dG wd (rows,most,acc) j0).1/\(FM.dG wd (rows,most,acc) j0).1.length<=r/\FM.bt b m2<=4400000/\FM.cb r m2<sizeLine/\(FM.dG wd (rows,most,acc) j0).2.2.length<=j:=by
    refine⟨j0+1,m,2*b+1,r+r*r/4,E',B',ER,rfl,by omega,xC,W5,W4,Ck fX,?_,CB,TZ,?_⟩
    ·exact le_trans (FM.J9 rows j0 most wd) (add_le_add zU (Nat.div_le_div_right (mul_le_mul zU zU)))
    ·show(acc++[rows]).length<=_;rw[length_append];exact Nat.add_le_add_right w9 1
   have xF:b<=4400000:=le_trans (le_trans (show b<=2*b+1 by omega) (FM.pL m (2*b+1))) CB;have PD:r+r*r/4<sizeLine:=lt_of_le_of_lt (FM.LG m _) TZ;have zr:rows.length<sizeLine:=by omega
   have za:acc.length<sizeLine:=lt_of_lt_of_le (show acc.length<1000 by omega) (sz (by decide));refine⟨[(7,nat j0)],rfl,?_⟩;dsimp!;rw[aA (af:=[~~~.tuple (p.map qD),~~~.list (os.map ao),~~~.list (rows.map aK),~~~.int ((p.length:Int)+2),~~~.list (wd.map nat),~~~.int (most:Int),some (.own (acc.map cz++[cz rows])),~~~(nat j0),x8]) (by simp![length_map,za])];have eE:=hE rows j0 (p.length+2+os.length) fX.len (by omega);rw[aA (af:=[~~~.tuple (p.map qD),~~~.list (os.map ao),~~~.list (rows.map aK),~~~.int ((p.length:Int)+2),~~~.list (wd.map nat),~~~.int (most:Int),some (.own (acc.map cz++[cz rows])),~~~(nat j0),~~~(tB (FM.eM j0 rows))]) (by simp![eE])];cases hq:FM.eM j0 rows with
   |none=>
    have e0:tB none=.none:=rfl;have en:FM.dG wd (rows,most,acc) j0=(FM.paired j0 wd (most+1) rows,most+1,acc++[rows]):=by
     unfold FM.dG FM.d8 FM.iW;dsimp only;rw[hq]
    have eP:=hP b (p.length+2+os.length) j0 (most+1) wd rows xF (by omega) (by omega) fX GJ Py (FM.MH Lo Ln hq) (lt_of_le_of_lt (le_trans (FM.zk rows j0) (add_le_add zU (Nat.div_le_div_right (mul_le_mul zU zU)))) PD);refine⟨[~~~.tuple (p.map qD),~~~.list (os.map ao),~~~.list ((FM.paired j0 wd (most+1) rows).map aK),~~~.int ((p.length:Int)+2),~~~.list (wd.map nat),~~~.int ((most+1:Nat):Int),some (.own (acc.map cz++[cz rows])),~~~(nat j0),~~~.none],?_,⟨_,_,by rw[en,map_append];rfl⟩,hQ⟩;rw[e0,nt (by dsimp![jA])];rw[aA (af:=[~~~.tuple (p.map qD),~~~.list (os.map ao),~~~.list (rows.map aK),~~~.int ((p.length:Int)+2),~~~.list (wd.map nat),~~~.int ((most+1:Nat):Int),some (.own (acc.map cz++[cz rows])),~~~(nat j0),~~~.none]) (by simp![c9];rfl)];simp![eP]
   |some q=>
    have sN:=mem_of_find?_eq_some hq;have Xb:=find?_some hq;have PL:q.1=.eq/\FM.ent q j0≠0:=by simpa using Xb
    have e0:tB (some q)=aK q:=rfl;have en:FM.dG wd (rows,most,acc) j0=((rows.filter λr=>decide (r≠q)).map (FM.wo q j0),most,acc++[rows]):=by
     unfold FM.dG FM.d8 FM.iW;dsimp only;rw[hq]
    have ec:bV (aName 0) (bS (L3.f2 gK (aN 0) (aN 2))) (kK 3 Fw (bh (aN 0) (bh (aN 2) (bh (aN 1) cG)))) [none,some (nat j0),some (aK q)] (rows.map aK)=some (((rows.filter λr=>decide (r≠q)).map (FM.wo q j0)).map aK):=by
     rw[i9 aK (λr=>aK (FM.wo q j0 r)) (λr=>decide (r≠q)) rows (λr hr=>?_)]
     ·rw[map_map];rfl
     ·refine⟨[(0,aK r)],rfl,?_,λhd=>?_⟩
      ·have er:(!decide (r=q))=decide (r≠q):=(decide_not).symm;rw[<- er];simp![MO]
      ·have cw:r≠q:=of_decide_eq_true hd;obtain⟨eW,_⟩:=hW b (p.length+2+os.length) j0 r q xF (by omega) (by omega) (fX.len r hr) (fX.len q sN) (fX.bd r hr) (fX.bd q sN) (FM.RI Lo Ln sN PL.1 PL.2 hr cw);simp![eW]
    refine⟨[~~~.tuple (p.map qD),~~~.list (os.map ao),~~~.list (((rows.filter λr=>decide (r≠q)).map (FM.wo q j0)).map aK),~~~.int ((p.length:Int)+2),~~~.list (wd.map nat),~~~.int (most:Int),some (.own (acc.map cz++[cz rows])),~~~(nat j0),~~~(aK q)],?_,⟨_,_,by rw[en,map_append];rfl⟩,hQ⟩;have n0:pg (aK q) .none=some (.bool false):=rfl;rw[e0,nv (by dsimp![n0])];simp![lV,length_map,zr,ec]
 ·rintro af ⟨x7,x8,rfl⟩;have PC:=FM.yK wd p.length 0 1 (FM.bo p os) [];generalize hfs:(range' 0 p.length).foldl (FM.dG wd) (FM.bo p os,1,[])=fs at *;have hl:fs.2.2.length=p.length:=by
   have:=congrArg List.length PC;rw[length_append,nil_append,vN]at this;exact Nat.succ.inj this
  have za:fs.2.2.length<sizeLine:=lt_of_lt_of_le (show fs.2.2.length<1000 by omega) (sz (by decide));have es:FM.bG p os=fs.2.2++[fs.1]:=by
   unfold FM.bG;rw[GK,PC,nil_append]
  rw[es,map_append];simp![length_map,za,map_cons,map_nil]
theorem rq{l g:Option Rat}(hn:1<=n+m)(hl:∀x,l=some x->SR n x)(hg:∀x,g=some x->SR m x):SR (n+m+3) (FM.gM l g):=by
 cases l with
 |none=>
  cases g with
  |none=>exact kf (by omega)
  |some g=>exact((hg g rfl).sub (xa (c:=1) (by decide))).up (by omega)
 |some l=>
  cases g with
  |none=>exact((hl l rfl).add (xa (c:=1) (by decide))).up (by omega)
  |some g=>exact(((hl l rfl).add (hg g rfl)).div (T2 (c:=2) (by decide)) (by decide)).up (by omega)
variable {ys:List Rat}
theorem gN.app{D:Nat}(h:gN xs C)(h2:gN ys D):gN (xs++ys) (C+D):=by
 induction h with
 |nil=>rw[zero_add];exact h2
 |zero h0 _ ih=>exact .zero h0 ih
 | @cons _ C s _ hs _ ih=>rw[show C+s+1+D=(C+D)+s+1 by omega];exact .cons hs ih
theorem gN.set(h:gN xs C){v:Rat}{s:Nat}(hv:SR s v):∀{m:Nat},m<xs.length->xs.getD m 0=0->∃C',C'<=C+s+1/\gN (xs.set m v) C':=by
 induction h with
 |nil=>intro m hm;simp at hm
 | @zero xs C q h0 h ih=>
  intro m hm e;cases m with
  |zero=>exact⟨C+s+1,le_refl _,.cons hv h⟩
  |succ m=>
   obtain⟨C',h1,h2⟩:=ih (m:=m) (by rw[length_cons]at hm;omega) e;exact⟨C',h1,.zero h0 h2⟩
 | @cons xs C t q hs h ih=>
  intro m hm e;cases m with
  |zero=>exact⟨C+s+1,by omega,.cons hv h⟩
  |succ m=>
   obtain⟨C',h1,h2⟩:=ih (m:=m) (by rw[length_cons]at hm;omega) e;exact⟨C'+t+1,by omega,.cons hs h2⟩
def C7 (bs:Nat->Nat):Nat->Nat->Nat
 |0,C=>C
 |m+1,C=>C7 bs m (C+(bs m+C+(bs m+C)+3)+1)
def qB (bs:Nat->Nat):Nat->Nat->Prop
 |0,_=>True
 |m+1,C=>bs m+C<=1900000/\qB bs m (C+(bs m+C+(bs m+C)+3)+1)
theorem yW(bs:Nat->Nat):∀(m:Nat) {C D:Nat},C<=D->C7 bs m C<=C7 bs m D
 |0,_,_,h=>h
 |m+1,_,_,h=>yW bs m (by omega)
theorem qA(bs:Nat->Nat):∀(m:Nat) {C D:Nat},C<=D->qB bs m D->qB bs m C
 |0,_,_,_,_=>trivial
 |m+1,_,_,h,h2=>⟨by have:=h2.1;omega,qA bs m (by omega) h2.2⟩
def oz (Ls:List (List FM.Row)) (x:List Rat) (m:Nat):List Rat:=x.set m (FM.gM (FM.gk (FM.cm (Ls.getD m []) m x (-1))) (FM.gI (FM.cm (Ls.getD m []) m x 1)))
theorem C5(Ls:List (List FM.Row)):∀(m:Nat) (x:List Rat),(List.range m).reverse.foldl (oz Ls) x=FM.ee Ls m x
 |0,x=>rfl
 |m+1,x=>by
  rw[range_succ,List.reverse_append];show(List.range m).reverse.foldl (oz Ls) (oz Ls x m)=_;rw[C5 Ls m];rfl
theorem down_eq:∀n:Nat,j8 ((n:Int)-1) n=(List.range n).reverse.map nat
 |0=>rfl
 |n+1=>by
  have ih:=down_eq n;rw[range_succ,List.reverse_append];show j8 _ _=nat n::(List.range n).reverse.map nat;rw[<- ih];unfold j8;rw[List.range_succ_eq_map,map_cons,map_map];congr 1
  ·show Dat.int _=Dat.int _;congr 1
   omega
  ·refine map_congr_left λi _=>?_;show Dat.int _=Dat.int _;congr 1
   show((n+1:Nat):Int)-1-((i+1:Nat):Int)=(n:Int)-1-(i:Int);omega
theorem xS(h:m<=ds.length):L3.cutD ds none (some (m:Int))=ds.take m:=by
 unfold L3.cutD;rw[HT.oo,HT.oY,Nat.min_eq_left h,drop_zero,sub_zero]
abbrev Vh (F:List Dat->Option Dat):Prop:=∀(n:Nat) l g,n<=1900000->(∀x,l=some x->SR n x)->(∀x,g=some x->SR n x)->F [iV l,iV g]=some (qD (FM.gM l g))
abbrev Uw (F:List Dat->Option Dat):Prop:=∀(n:Nat) b,n<=4000000->(∀x,b=some x->SR n x.2.1)->F [dr b]=some (iV (FM.gk b))
abbrev UK (F:List Dat->Option Dat):Prop:=∀b,F [dr b]=some (iV (FM.gI b))
theorem AJ(g:α->Dat){xs:List α}{x:α}(h:xs[n]?=some x):bA (.list (xs.map g)) (nat n)=some (g x):=by
 show gD (xs.map g) (n:Int)=_;have hl:n<xs.length:=(List.getElem?_eq_some_iff.mp h).1;unfold L2.gD L2.mO;rw[if_pos (by omega),if_pos (by rw[length_map];omega)];show(xs.map g)[((n:Int)).toNat]?=_;rw[toNat_natCast,getElem?_map,h];rfl
abbrev UC (F:List Dat->Option Dat):Prop:=∀(bs:Nat->Nat) (n M s:Nat) (Ls:List (List FM.Row)) (t:Rat),Ls.length=n+1->(∀i,i<n->1<=bs i/\∃rs,Ls[i]?=some rs/\gY M (bs i) rs)->n+1<M->M<=900->n<=90->SR s t->qB bs n (s+1)->F [.list (Ls.map cz),qD t]=some (.tuple ((FM.dP Ls n t).map qD))/\∀q∈FM.dP Ls n t,SR (C7 bs n (s+1)+1) q
theorem rV(n:Nat)(t:Rat):(List.replicate n (0:Rat)++[t]).length=n+1:=by rw[length_append,length_replicate];rfl
theorem tx(n:Nat)(t:Rat):∀c,c<n->(List.replicate n (0:Rat)++[t]).getD c 0=0:=λc hc=>by
 rw[getD_eq_getElem?_getD,getElem?_append_left (by rw[length_replicate];exact hc),getElem?_replicate,if_pos hc];rfl
theorem vQ{s:Nat}{t:Rat}(ht:SR s t):gN (List.replicate n (0:Rat)++[t]) (s+1):=by
 have:=(tT n).app (gN.cons ht .nil);rw[show 0+(0+s+1)=s+1 by omega]at this;exact this
theorem G7(Ls:List (List FM.Row)):∀(m:Nat) (x:List Rat),(FM.ee Ls m x).length=x.length
 |0,x=>rfl
 |m+1,x=>by
  show(FM.ee Ls m (x.set m _)).length=_;rw[G7 Ls m,length_set]
theorem oS{x:List Rat}(iC:way=1\/way=-1)(hR:gY m b rows)(hC:gN x C){t:FM.fG}(h:FM.cm rows j x way=some t):SR (b+C) t.2.1:=by
 obtain⟨⟨r,hr,hc,k1,k2,k3⟩,_⟩:=(FM.jD rows j x way).some t h;have pv:way*FM.ent r j≠0:=by rcases hc with hc|⟨hc,_⟩<;>omega
 have hb:=uf iC (d6 (j:=j) (hR.bd r hr));rw[k2];unfold FM.dN;have:=vY r (hR.bd r hr) x 0 0 C (FM.ent r x.length:Rat) (zB (d6 (hR.bd r hr))) hC;rw[zero_add]at this;exact Cn this hb pv
theorem Ga{bs:Nat->Nat}{n M:Nat}{Ls:List (List FM.Row)}(hl:Ls.length=n+1)(hst:∀i,i<n->1<=bs i/\∃rs,Ls[i]?=some rs/\gY M (bs i) rs):∀(m C:Nat) (x:List Rat),m<=n->x.length=n+1->(∀c,c<m->x.getD c 0=0)->gN x C->qB bs m C->∃C',C'<=C7 bs m C/\gN (FM.ee Ls m x) C'
 |0,C,x,_,_,_,hC,_=>⟨C,le_refl _,hC⟩
 |m+1,C,x,hm,uW,jh,hC,hO=>by
  obtain⟨b1,rs,Cv,fX⟩:=hst m (by omega);have eD:Ls.getD m []=rs:=by rw[getD_eq_getElem?_getD,Cv];rfl
  have v1:∀y,FM.gk (FM.cm (Ls.getD m []) m x (-1))=some y->SR (bs m+C) y:=λy hy=>by
   rw[eD]at hy;cases ho:FM.cm rs m x (-1)with
   |none=>rw[ho]at hy;cases hy
   |some o=>
    rw[ho]at hy;cases hy;exact gx (oS (.inr rfl) fX hC ho)
  have v2:∀y,FM.gI (FM.cm (Ls.getD m []) m x 1)=some y->SR (bs m+C) y:=λy hy=>by
   rw[eD]at hy;cases ho:FM.cm rs m x 1 with
   |none=>rw[ho]at hy;cases hy
   |some o=>
    rw[ho]at hy;cases hy;exact oS (.inl rfl) fX hC ho
  have sv:=rq (by omega) v1 v2;obtain⟨C',Ac,Ab⟩:=hC.set sv (m:=m) (by omega) (jh m (by omega));obtain⟨C2,h1,h2⟩:=Ga hl hst m C' _ (by omega) (by rw[length_set];exact uW) (λc hc=>by
   rw[FM.jL (by omega),if_neg (by omega)];exact jh c (by omega)) Ab (qA bs m Ac hO.2)
  exact⟨C2,le_trans h1 (yW bs m Ac),h2⟩
variable {Fn Fb:List Dat->Option Dat}
theorem N9(T:TX P K mg)(Z1:TC K mg "ZERO_elimination" [.int 0,.int 1] a1)(nN:Dn P w K mg base 45 "tightest" ["rows","place","point","way"] 4 Ft)(hT:Rg Ft)(jq:Dn P w K mg base 45 "turned_number_of" ["end"] 1 Fu)(hU:Uw Fu)(pS:Dn P w K mg base 45 "number_of" ["end"] 1 Fn)(hN:UK Fn)(uc:Dn P w K mg base 45 "between" ["least","greatest"] 2 Fb)(xG:Vh Fb)(U:FnAt K mg "point_of" (top 34) ["stages","number"]):
  ∃F,Dn P w K mg base 46 "point_of" ["stages","number"] 2 F/\UC F:=by
 refine⟨_,cO ["stages","number","many","point","place","least","greatest"] U λnd _ _ _ _ _ _ _ hr=>
  (ae (aC 2 nd (oy (cX T.len (a6 (a5 0) a9)) a8))
  (ae (kQ 3 nd (IQ (tw (gZ (a6 (cv Z1.mg Z1.tup) a9)) (a5 2)) (gZ (a6 (a5 1) a9))))
  (ae (jT PassesOwn.never rfl (FR T.range (a6 (oy (a5 2) a8) (a6 (dw a8) (a6 (dw a8) a9 (hs:=gQ)) (hs:=gQ)) (hs:=cC))) (aq 4 nd)
  (ae (xi 5 nd (ay jq hr (a6 (ay nN hr (a6 (aj (a5 0) (a5 4)) (a6 (a5 4) (a6 (a5 3) (a6 (dw a8) a9 (hs:=gQ)))) (hs:=aM))) a9 (hs:=aZ))))
  (ae (xi 6 nd (ay pS hr (a6 (ay nN hr (a6 (aj (a5 0) (a5 4)) (a6 (a5 4) (a6 (a5 3) (a6 a8 a9))) (hs:=aM))) a9 (hs:=aZ))))
  (ag (B6 3 (ay uc hr (a6 (a5 5) (a6 (a5 6) a9))) (a5 4))))))
  (ag (ax (gV T.tuple (a6 (hG (a5 3) iS (iR (a5 2))) a9 (hs:=aM)))))))),?_⟩
 intro bs n M s Ls t hl hst TL CF sP ht bx;have z1:1<=sizeLine:=sz (by decide);have lo:=jc cz Ls;have hp:((Ls.length:Nat):Int)-1=(n:Int):=by omega
 refine⟨?_,?_⟩
 ·refine bX ?_;simp!;rw[aA (af:=[~~~.list (Ls.map cz),~~~(qD t),~~~.int (n:Int),none,none,none,none]) (by simp![lo,fS,hp])];have er:pI (nJ (bh (fC (.tuple [.int 0,.int 1])) cG)) (aN 2) (c7 [~~~.list (Ls.map cz),~~~(qD t),~~~.int (n:Int),none,none,none,none])=some ((List.replicate n (0:Rat)).map qD):=yP rfl (by omega);rw[aA (af:=[~~~.list (Ls.map cz),~~~(qD t),~~~.int (n:Int),some (.own ((List.replicate n (0:Rat)++[t]).map qD)),none,none,none]) (by
   rw[map_append];have zl:((List.replicate n (0:Rat)).map qD).length+1<=sizeLine:=by rw[length_map,length_replicate];exact sz (by omega)
   generalize (List.replicate n (0:Rat)).map qD=zs at *;generalize pI (nJ (bh (fC (.tuple [.int 0,.int 1])) cG)) (aN 2)=gr at *;simp only[c7,map_cons,map_nil]at er;simp![er,Em,zl,z1])]
  have PJ:qP DK (bh (L3.f2 DC (aN 2) (fC (.int 1))) (bh (fC (.int (-1))) (bh (fC (.int (-1))) cG))) (bj [~~~.list (Ls.map cz),~~~(qD t),~~~.int (n:Int),some (.own ((List.replicate n (0:Rat)++[t]).map qD)),none,none,none])=some ((List.range n).reverse.map nat):=by
   refine mQ (as:=[.int ((n:Int)-1),.int (-1),.int (-1)]) (by
    generalize (List.replicate n (0:Rat)++[t]).map qD=zs;simp![fS]) ?_
   rw[<- down_eq];have e2:((n:Int)-1-(-1)).toNat=n:=by omega
   show(if(-1:Int)=-1/\(-(2^62)<=(n:Int)-1/\(n:Int)-1<2^62)/\(-(2^62)<=(-1:Int)/\(-1:Int)<2^62)then some (j8 ((n:Int)-1) ((n:Int)-1-(-1)).toNat)else none)=_;rw[if_pos ⟨rfl,by omega,by omega⟩,e2]
  refine gm (I:=_) (ly (l:=(List.range n).reverse) (s:=List.replicate n (0:Rat)++[t]) nat (fun(x:List Rat) Γ=>∃x4 x5 x6,Γ=[~~~.list (Ls.map cz),~~~(qD t),~~~.int (n:Int),some (.own (x.map qD)),x4,x5,x6])
   (λx l=>∃m C,l=(List.range m).reverse/\m<=n/\x.length=n+1/\(∀c,c<m->x.getD c 0=0)/\gN x C/\qB bs m C) (oz Ls) PJ ⟨n,s+1,rfl,le_refl _,rV n t,tx n t,vQ ht,bx⟩ ⟨none,none,none,rfl⟩ ?_) ?_
  ·rintro x m0 l Γ ⟨m,C,PU,hmn,uW,jh,hC,hO⟩ ⟨x4,x5,x6,rfl⟩;cases m with
   |zero=>cases PU
   |succ m=>
    rw[range_succ,List.reverse_append]at PU;obtain⟨rfl,rfl⟩:=List.cons.inj (show m0::l=m::(List.range m).reverse from PU);obtain⟨b1,rs,Cv,fX⟩:=hst m0 (by omega);have XQ:=hO.1;have eD:Ls.getD m0 []=rs:=by rw[getD_eq_getElem?_getD,Cv];rfl
    obtain⟨t1,s1⟩:=hT (bs m0) C M m0 rs x (-1) (.inr rfl) b1 fX (by omega) CF (by omega) (by omega) hC (by omega);obtain⟨t2,s2⟩:=hT (bs m0) C M m0 rs x 1 (.inl rfl) b1 fX (by omega) CF (by omega) (by omega) hC (by omega);have e1:=hU (bs m0+C) (FM.cm rs m0 x (-1)) (by omega) s1;have e2:=hN (FM.cm rs m0 x 1);have v1:∀y,FM.gk (FM.cm rs m0 x (-1))=some y->SR (bs m0+C) y:=λy hy=>by
     cases ho:FM.cm rs m0 x (-1)with
     |none=>rw[ho]at hy;cases hy
     |some o=>
      rw[ho]at hy;cases hy;exact gx (s1 o ho)
    have v2:∀y,FM.gI (FM.cm rs m0 x 1)=some y->SR (bs m0+C) y:=λy hy=>by
     cases ho:FM.cm rs m0 x 1 with
     |none=>rw[ho]at hy;cases hy
     |some o=>
      rw[ho]at hy;cases hy;exact s2 o ho
    have e3:=xG (bs m0+C) _ _ XQ v1 v2;have sv:=rq (by omega) v1 v2;have es:oz Ls x m0=x.set m0 (FM.gM (FM.gk (FM.cm rs m0 x (-1))) (FM.gI (FM.cm rs m0 x 1))):=by unfold oz;rw[eD]
    have as:=AJ cz Cv;have n5:∀o:Option Rat,Gq 9 (iV o)=true:=λo=>by cases o<;>rfl
    generalize FM.gk (FM.cm rs m0 x (-1))=o1 at *;generalize FM.gI (FM.cm rs m0 x 1)=o2 at *;have Xr:mO (x.map qD).length (m0:Int)=some m0:=by
     unfold L2.mO;rw[if_pos (by omega),if_pos (by rw[length_map];omega),toNat_natCast]
    refine⟨[(4,nat m0)],rfl,?_⟩;dsimp!;refine⟨[~~~.list (Ls.map cz),~~~(qD t),~~~.int (n:Int),some (.own ((x.map qD).set m0 (qD (FM.gM o1 o2)))),~~~(nat m0),~~~(iV o1),~~~(iV o2)],?_,⟨_,_,_,by rw[es,List.map_set]⟩,?_⟩
    ·rw[aA (af:=[~~~.list (Ls.map cz),~~~(qD t),~~~.int (n:Int),some (.own (x.map qD)),~~~(nat m0),~~~(iV o1),x6]) (by dsimp![yd,as,t1,e1,n5])];rw[aA (af:=[~~~.list (Ls.map cz),~~~(qD t),~~~.int (n:Int),some (.own (x.map qD)),~~~(nat m0),~~~(iV o1),~~~(iV o2)]) (by dsimp![yd,as,t2,e2,n5])];dsimp![vL,e3,qb,Xr]
    ·obtain⟨C',Ac,Ab⟩:=hC.set sv (m:=m0) (by omega) (jh m0 (by omega));refine⟨m0,C',rfl,by omega,by rw[es,length_set];exact uW,λc hc=>?_,by rw[es];exact Ab,qA bs m0 Ac hO.2⟩;rw[es,FM.jL (by omega),if_neg (by omega)];exact jh c (by omega)
  ·rintro af ⟨x4,x5,x6,rfl⟩;rw[C5];have eP:FM.dP Ls n t=(FM.ee Ls n (List.replicate n 0++[t])).take n:=rfl;have hy:=G7 Ls n (List.replicate n 0++[t]);rw[rV]at hy;rw[eP];generalize FM.ee Ls n (List.replicate n 0++[t])=y at *;have ec:uv (.list (y.map qD)) none (some (n:Int))=some (.list ((y.take n).map qD)):=by
    show some (Dat.list (L3.cutD (y.map qD) none (some (n:Int))))=_;rw[xS (by rw[length_map];omega),map_take]
   dsimp![pH,nC,nD,qb,ec,gO]
 ·intro q hq;have h1:=Ga hl hst n (s+1) (List.replicate n 0++[t]) (le_refl _) (rV n t) (tx n t) (vQ ht) bx;obtain⟨C',Ac,Ab⟩:=h1;exact(Ab.mem q (List.mem_of_mem_take hq)).up (by omega)
abbrev UE (F:List Dat->Option Dat):Prop:=∀(bs:Nat->Nat) (n M b:Nat) (Ls:List (List FM.Row)) (rows:List FM.Row) (β:Rat),Ls.length=n+1->Ls[n]?=some rows->gY M b rows->1<=b->b<=1900000->(∀i,i<n->1<=bs i/\∃rs,Ls[i]?=some rs/\gY M (bs i) rs)->n+1<M->M<=900->n<=90->SR b β->qB bs n (b+b+3+1)->
 F [.list (Ls.map cz),qD β]=some (.tuple ((FM.dP Ls n (FM.eO n rows β)).map qD))/\∀q∈FM.dP Ls n (FM.eO n rows β),SR (C7 bs n (b+b+3+1)+1) q
def KW (β:Rat):Option Rat->Rat
 |none=>β
 |some l=>if l<β then β else l
theorem JT(T:TX P K mg){Fo:List Dat->Option Dat}(kG:Dn P w K mg base 47 "upper_end" ["stages"] 1 Fu)(hU:AM 1 Fu)(lP:Dn P w K mg base 47 "opposite_end" ["stages"] 1 Fo)(hO:AM (-1) Fo)(jq:Dn P w K mg base 47 "turned_number_of" ["end"] 1 Ft)(hT:Uw Ft)(pS:Dn P w K mg base 47 "number_of" ["end"] 1 Fn)(hN:UK Fn)(uc:Dn P w K mg base 47 "between" ["least","greatest"] 2 Fb)(xG:Vh Fb)(ng:Dn P w K mg base 47 "below" ["a","b"] 2 fQ)(Io:Dn P w K mg base 47 "point_of" ["stages","number"] 2 Fp)(hP:UC Fp)(U:FnAt K mg "point_beyond" (top 35) ["stages","bound"]):
  ∃F,Dn P w K mg base 48 "point_beyond" ["stages","bound"] 2 F/\UE F:=by
 refine⟨_,cO ["stages","bound","least"] U λnd _ _ _ _ _ _ _ hr=>
  (ae (aC 2 nd (ay jq hr (a6 (ay lP hr (a6 (a5 0) a9)) a9 (hs:=aZ))))
  (ae (bc (cD (cW (dM (a5 2) cK) (d7 (bJ (ay ng hr (a6 (a5 2) (a6 (a5 1) a9))))))) (ag (aC 2 nd (a5 1))) aV)
  (ag (ax (ay Io hr (a6 (a5 0) (a6 (ay uc hr (a6 (a5 2) (a6 (ay pS hr (a6 (ay kG hr (a6 (a5 0) a9)) a9 (hs:=aZ))) a9 (hs:=aZ)))) a9 (hs:=aZ)))))))),?_⟩
 intro bs n M b Ls rows β hl hn hR hb GZ hst TL CF sP dA bx;have eu:=hU b n M Ls rows hb hl hn hR (by omega) CF sP (by omega);have eo:=hO b n M Ls rows hb hl hn hR (by omega) CF sP (by omega);have s1:∀t,FM.endOf n rows 1=some t->SR b t.2.1:=λt h=>(mW (.inl rfl) hR h).1;have s2:∀t,FM.endOf n rows (-1)=some t->SR b t.2.1:=λt h=>(mW (.inr rfl) hR h).1;have e1:=hT b (FM.endOf n rows (-1)) (by omega) s2;have e2:=hN (FM.endOf n rows 1);have bT:FM.eO n rows β=FM.gM (some (KW β (FM.gk (FM.endOf n rows (-1))))) (FM.gI (FM.endOf n rows 1)):=by
  unfold FM.eO;cases FM.gk (FM.endOf n rows (-1))<;>rfl
 have v2:∀y,FM.gI (FM.endOf n rows 1)=some y->SR b y:=λy hy=>by
  cases ho:FM.endOf n rows 1 with
  |none=>rw[ho]at hy;cases hy
  |some o=>
   rw[ho]at hy;cases hy;exact s1 o ho
 have v1:∀y,FM.gk (FM.endOf n rows (-1))=some y->SR b y:=λy hy=>by
  cases ho:FM.endOf n rows (-1)with
  |none=>rw[ho]at hy;cases hy
  |some o=>
   rw[ho]at hy;cases hy;exact gx (s2 o ho)
 rw[bT];generalize FM.gI (FM.endOf n rows 1)=o2 at *;generalize FM.gk (FM.endOf n rows (-1))=o1 at *;have key:∃l:Rat,SR b l/\KW β o1=l/\∀g,du (mG (jo (bS (L3.f2 pg (aN 2) (fC .none))) (lK (kK 2 fQ (bh (aN 2) (bh (aN 1) cG))))) (iA 2 (aN 1)) kg) g [~~~.list (Ls.map cz),~~~(qD β),~~~(iV o1)]=g [~~~.list (Ls.map cz),~~~(qD β),~~~(qD l)]:=by
  cases o1 with
  |none=>exact⟨β,dA,rfl,λg=>by rw[aA (af:=[some (.a7 (.list (Ls.map cz))),some (.a7 (qD β)),some (.a7 (qD β))]) (by simp![iV,jA])]⟩
  |some l=>
   have sl:=v1 l rfl;have e3:=mz sl dA (by omega) (by omega);have eq:iV (some l)=qD l:=rfl;rw[eq];by_cases c:l<β
   ·rw[decide_eq_true c]at e3;exact⟨β,dA,if_pos c,λg=>by rw[aA (af:=[~~~.list (Ls.map cz),~~~(qD β),~~~(qD β)]) (by simp![uQ,e3])]⟩
   ·rw[decide_eq_false c]at e3;exact⟨l,sl,if_neg c,λg=>by rw[aA (af:=[~~~.list (Ls.map cz),~~~(qD β),~~~(qD l)]) (by simp![uQ,e3])]⟩
 obtain⟨l,sl,el,hg⟩:=key;rw[el];have e3:=xG b (some l) o2 GZ (λx hx=>by cases hx;exact sl) v2;have sb:SR (b+b+3) (FM.gM (some l) o2):=rq (by omega) (λx hx=>by cases hx;exact sl) v2;obtain⟨e4,e5⟩:=hP bs n M (b+b+3) Ls _ hl hst TL CF sP sb bx;refine⟨?_,e5⟩;have eq:iV (some l)=qD l:=rfl;rw[eq]at e3;refine bX ?_;simp!;rw[aA (af:=[~~~.list (Ls.map cz),~~~(qD β),~~~(iV o1)]) (by dsimp![eo,e1])];rw[hg];dsimp![eu,e2,e3,e4]
theorem JS(T:TX P K mg){a4:Addr}(Z4:TC K mg "ZERO_follows" [.int 0,.int 1] a4)(jz:Dn P w K mg base 43 "minus" ["a","b"] 2 fz)(U:FnAt K mg "halves" (top 38) ["line"]):
  ∃F,Dn P w K mg base 44 "halves" ["line"] 1 F/\∀(c:Nat) (o:FM.Ol),c<=4000000->o.2.1.length<=900->(∀q∈o.2.1,SR c q)->SR c o.2.2->F [ao o]=some (.list [ao (.le,o.2.1,o.2.2),ao (.le,o.2.1.map (λq=>0-q),0-o.2.2)]):=by
 refine⟨_,cO ["line","parts"] U λnd _ _ _ _ _ _ _ hr=>
  (ae (aC 1 nd (gV T.tuple (a6 (cE (gn rfl (j4 (N':=["part"])) (aj (a5 0) a8) (λ_ _ _ _=>(aq 0 (show(["part"]:List Str).Nodup by decide +kernel))) (λ_ _ _ _=>d9) (λ_ _ _ _=>(ay jz hr (a6 (cv Z4.mg Z4.tup) (a6 (a5 0) a9)))) (cV rfl))) a9)))
  (ag (ax (eC (a6 (aX (k:=0) (a6 aT (a6 (aj (a5 0) a8) (a6 (aj (a5 0) a8) a9 (hs:=aM)) (hs:=aM)))) (a6 (aX (k:=0) (a6 aT (a6 (a5 1) (a6 (ay jz hr (a6 (cv Z4.mg Z4.tup) (a6 (aj (a5 0) a8) a9 (hs:=aM)))) a9 (hs:=aZ))))) a9 (hs:=cJ)) (hs:=cJ)))))),?_⟩
 intro c o hc hl hq hb;have z3:3<=sizeLine:=sz (by decide);have z2:2<=sizeLine:=sz (by decide);have zl:o.2.1.length<sizeLine:=lt_of_lt_of_le (show o.2.1.length<1000 by omega) (sz (by decide));have o1:bA (ao o) (.int 1)=some (.tuple (o.2.1.map qD)):=rfl;have o2:bA (ao o) (.int 2)=some (qD o.2.2):=rfl;have ec:bV (aName 0) fk (kK 2 fz (bh (fC (.tuple [.int 0,.int 1])) (bh (aN 0) cG))) [none] (o.2.1.map qD)=some ((o.2.1.map λq=>0-q).map qD):=by
  refine de _ _ (by rw[length_map,length_map,length_map]) λn d o' h1 h2=>?_;rw[getElem?_map]at h1 h2;rw[getElem?_map]at h2;cases hz:o.2.1[n]? with
  |none=>rw[hz]at h1;cases h1
  |some q=>
   rw[hz]at h1 h2;cases h1;cases h2;refine⟨[(0,qD q)],rfl,?_⟩;have em:fz [.tuple [.int 0,.int 1],qD q]=some (qD (0-q)):=my (kf (c:=1) (by decide)) (hq q (mem_of_getElem? hz)) (by decide) hc;simp![em]
 have em:fz [.tuple [.int 0,.int 1],qD o.2.2]=some (qD (0-o.2.2)):=my (kf (c:=1) (by decide)) hb (by decide) hc;have ks:bw .le="<=":=rfl;dsimp![o1,o2,fB,length_map,zl,ec,em,gO,z2,z3,ks];rfl
abbrev UU (F:List Dat->Option Dat):Prop:=∀(c:Nat) (s:Bool) (p:List Rat) (β:Rat) (kt:Bool) (v:Rat),c<=4000000->SR c β->SR c v->F [ao (if s=true then .lt else .le,p,β),.str (f9 kt),qD v]=some (.bool (FM.gy s β kt v))
theorem SK(T:TX P K mg)(ng:Dn P w K mg base 43 "below" ["a","b"] 2 fQ)(U:FnAt K mg "is_kept" (top 39) ["line","kind","bound"]):
  ∃F,Dn P w K mg base 44 "is_kept" ["line","kind","bound"] 3 F/\UU F:=by
 refine⟨_,cO ["line","kind","bound"] U λnd _ _ _ _ _ _ _ hr=>
  (ae (bc (cy hr (a5 2) (aj (a5 0) a8)) (ag (ax (qz (iT hr (aj (a5 0) a8) aT) (fP (iT hr (a5 1) aT))))) aV)
  (ag (ax (ay ng hr (a6 (a5 2) (a6 (aj (a5 0) a8) a9 (hs:=aM))))))),?_⟩
 intro c s p β kt v hc dA hv;have e1:=pJ v β;have e2:=mz hv dA hc hc;have o0:bA (ao (if s=true then .lt else .le,p,β)) (.int 0)=some (.str (f9 s)):=by cases s<;>rfl
 have o2:bA (ao (if s=true then .lt else .le,p,β)) (.int 2)=some (qD β):=rfl;have k1:cM (.str (f9 s)) (.str "<=")=some (.bool (!s)):=by cases s<;>rfl
 have k2:cM (.str (f9 kt)) (.str "<")=some (.bool kt):=by cases kt<;>rfl
 have eK:FM.gy s β kt v=if v=β then(!s || kt)else decide (v<β):=rfl;rw[eK];generalize ao (if s=true then .lt else .le,p,β)=dl at *;generalize f9 s=a at *;generalize f9 kt=c' at *;by_cases c1:v=β
 ·rw[decide_eq_true c1]at e1;rw[if_pos c1];cases s<;>cases kt<;>dsimp![o0,o2,e1,k1,k2]<;>rfl
 ·rw[decide_eq_false c1]at e1;rw[if_neg c1];dsimp![o0,o2,e1,e2]
structure Rh (c e n k:Nat):Prop where
 c1:1<=c
 c3:c<=3000000
 e4:e<=4000000
 n5:n<=50
 k1:k<=100
 bt:FM.bt (c+e) n<=1900000
 cb:FM.cb (k+1) n<sizeLine
 pt:qB (FM.bt (c+e)) n (FM.bt (c+e) n+FM.bt (c+e) n+3+1)
abbrev jX (h:Bool×List Rat):Dat:=if h.1=true then .tuple [.str "follows",.list (h.2.map qD)]else .tuple [.str "breaks",.tuple (h.2.map qD)]
structure tZ (c e:Nat) (p:List Rat) (os:List FM.Ol):Prop where
 sz:Rh c e p.length os.length
 sp:∀q∈p,SR c q
 dp:fu p<2^e
 ok:∀o∈os,wL c e p.length o
theorem uq(h:tZ c e p os):∀i,i<=p.length->∃rs,(FM.bG p os)[i]?=some rs/\gY (p.length+2+os.length) (FM.bt (c+e) i) rs:=
 λi hi=>FF _ p.length 0 1 (c+e) _ (Al h.sz.c1 h.sp h.dp h.ok) i hi
theorem O4(p:List Rat)(os:List FM.Ol):(FM.bG p os).length=p.length+1:=vN _ _ _ _ _
abbrev UY (F:List Dat->Option Dat):Prop:=∀(c e:Nat) (s:Bool) (p:List Rat) (β:Rat) (os:List FM.Ol),tZ c e p os->SR (FM.bt (c+e) p.length) β->F [ao (if s=true then .lt else .le,p,β),.list (os.map ao)]=some (jX (FM.b9 s p β os))
variable {Fs:List Dat->Option Dat}
theorem QL(T:TX P K mg){Fk:List Dat->Option Dat}(EK:Dn P w K mg base 49 "stages_of" ["parts","others"] 2 Fs)(hS:Ux Fs)(Rx:Dn P w K mg base 49 "never" ["stages"] 1 Fn)(hN:UJ Fn)(kG:Dn P w K mg base 49 "upper_end" ["stages"] 1 Fu)(hU:AM 1 Fu)(Ka:Dn P w K mg base 49 "is_kept" ["line","kind","bound"] 3 Fk)(hK:UU Fk)(y9:Dn P w K mg base 49 "point_beyond" ["stages","bound"] 2 Fb)(xG:UE Fb)(U:FnAt K mg "half_follows" (top 40) ["line","others"]):
  ∃F,Dn P w K mg base 50 "half_follows" ["line","others"] 2 F/\UY F:=by
 refine⟨_,cO ["line","others","stages","paper","top"] U λnd _ _ _ _ _ _ _ hr=>
  (ae (aC 2 nd (ay EK hr (a6 (aj (a5 0) a8) (a6 (a5 1) a9) (hs:=aM))))
  (ae (aC 3 nd (ay Rx hr (a6 (a5 2) a9)))
  (ae (bc (dM (a5 3) cK) (ae (aC 4 nd (ay kG hr (a6 (a5 2) a9)))
  (ae (bc (cD (cW (dM (a5 4) cK) (d7 (dJ (bJ (ay Ka hr (a6 (a5 0) (a6 (aj (a5 4) a8) (a6 (aj (a5 4) a8) a9 (hs:=aM)) (hs:=aM))))))))) (ag (ax (aX (k:=0) (a6 aT (a6 (ay y9 hr (a6 (a5 2) (a6 (aj (a5 0) a8) a9 (hs:=aM)))) a9 (hs:=aZ)))))) aV)
  (ag (aC 3 nd (aj (a5 4) a8))))) aV)
  (ag (ax (aX (k:=0) (a6 aT (a6 (a5 3) a9)))))))),?_⟩
 intro c e s p β os hL dA;have z2:2<=sizeLine:=sz (by decide);have S:=hL.sz;have Ll:1<=FM.bt (c+e) p.length:=le_trans (show 1<=c+e by have:=S.c1;omega) (FM.pL _ _);have pY:=S.bt;have PR:=S.n5;have hk1:=S.k1;have eS:=hS c e p os S.c1 S.c3 S.e4 S.n5 S.k1 hL.sp hL.dp hL.ok (by omega) S.cb;obtain⟨rows,nG,fX⟩:=uq hL p.length (le_refl _);have hst:∀i,i<p.length->1<=FM.bt (c+e) i/\∃rs,(FM.bG p os)[i]?=some rs/\gY (p.length+2+os.length) (FM.bt (c+e) i) rs:=λi hi=>
  ⟨le_trans (show 1<=c+e by have:=S.c1;omega) (FM.pL _ _),uq hL i (Nat.le_of_lt hi)⟩
 have hlen:=O4 p os;have eN:=hN _ p.length _ (FM.bG p os) rows Ll hlen nG fX (by omega) (by omega) (by omega) pY;have eU:=hU _ p.length _ (FM.bG p os) rows Ll hlen nG fX (by omega) (by omega) (by omega) (by omega);obtain⟨eB,_⟩:=xG (FM.bt (c+e)) p.length _ _ (FM.bG p os) rows β hlen nG fX Ll pY hst (by omega) (by omega) (by omega) dA S.pt;have uY:FM.aJ p os=rows:=by unfold FM.aJ;rw[getD_eq_getElem?_getD,nG];rfl
 have hh:FM.b9 s p β os=(match FM.never p.length rows with
  |some w=>(true,w)
  |none=>match FM.endOf p.length rows 1 with
   |none=>(false,FM.dP (FM.bG p os) p.length (FM.eO p.length rows β))
   |some t=>if FM.gy s β t.1 t.2.1=true then(true,t.2.2)else(false,FM.dP (FM.bG p os) p.length (FM.eO p.length rows β))):=by
  unfold FM.b9 FM.beyond;cases uY;cases FM.never p.length (FM.aJ p os)with
  |some w=>rfl
  |none=>cases FM.endOf p.length (FM.aJ p os) 1<;>rfl
 rw[hh];generalize FM.dP (FM.bG p os) p.length (FM.eO p.length rows β)=pt at *;have o1:bA (ao (if s=true then .lt else .le,p,β)) (.int 1)=some (.tuple (p.map qD)):=rfl;have o2:bA (ao (if s=true then .lt else .le,p,β)) (.int 2)=some (qD β):=rfl;have XY:∀kt v,SR (FM.bt (c+e) p.length) v->Fk [ao (if s=true then .lt else .le,p,β),.str (f9 kt),qD v]=some (.bool (FM.gy s β kt v)):=λkt v hv=>hK _ s p β kt v (by omega) dA hv;have sE:∀t,FM.endOf p.length rows 1=some t->SR (FM.bt (c+e) p.length) t.2.1:=λt h=>(mW (.inl rfl) fX h).1;generalize ao (if s=true then .lt else .le,p,β)=dl at *;refine bX ?_;simp!;rw[aA (af:=[~~~(dl),~~~.list (os.map ao),~~~.list ((FM.bG p os).map cz),none,none]) (by dsimp![o1,eS])];rw[aA (af:=[~~~(dl),~~~.list (os.map ao),~~~.list ((FM.bG p os).map cz),~~~(mK (FM.never p.length rows)),none]) (by dsimp![eN])];cases hnv:FM.never p.length rows with
 |some ws=>
  have e0:mK (some ws)=.list (ws.map qD):=rfl;have n0:pg (.list (ws.map qD)) .none=some (.bool false):=rfl;rw[e0];rw[aA (af:=[~~~(dl),~~~.list (os.map ao),~~~.list ((FM.bG p os).map cz),~~~.list (ws.map qD),none]) (by dsimp![n0])];dsimp![z2];rfl
 |none=>
  have e0:mK none=.none:=rfl;rw[e0];cases v3:FM.endOf p.length rows 1 with
  |none=>
   rw[v3]at eU;have eb:dr none=.none:=rfl;rw[eb]at eU;dsimp![jA,eU,o2,eB,z2];rfl
  |some t=>
   rw[v3]at eU;have t0:bA (dr (some t)) (.int 0)=some (.str (f9 t.1)):=rfl;have t1:bA (dr (some t)) (.int 1)=some (qD t.2.1):=rfl;have t2:bA (dr (some t)) (.int 2)=some (.list (t.2.2.map qD)):=rfl;have eK:=XY t.1 t.2.1 (sE t v3);cases hk:FM.gy s β t.1 t.2.1 with
   |false=>
    rw[hk]at eK;rw[show(match some t with|none=>(false,pt)|some t=>if FM.gy s β t.1 t.2.1=true then(true,t.2.2)else(false,pt))=((false,pt):Bool×List Rat) by show(if FM.gy s β t.1 t.2.1=true then(true,t.2.2)else(false,pt))=_;rw[hk];rfl]
    dsimp![jA,m6,eU,t0,t1,eK,o2,eB,z2];rfl
   |true=>
    rw[hk]at eK;rw[show(match some t with|none=>(false,pt)|some t=>if FM.gy s β t.1 t.2.1=true then(true,t.2.2)else(false,pt))=((true,t.2.2):Bool×List Rat) by show(if FM.gy s β t.1 t.2.1=true then(true,t.2.2)else(false,pt))=_;rw[hk];rfl]
    rw[aA (af:=[~~~(dl),~~~.list (os.map ao),~~~.list ((FM.bG p os).map cz),~~~.list (t.2.2.map qD),~~~(dr (some t))]) (by dsimp![jA,m6,eU,t0,t1,t2,eK])];dsimp![z2];rfl
def Ai (k:FM.Kn) (p:List Rat) (β:Rat) (os:List FM.Ol):Dat:=match k with
 | .lt=>jX (FM.b9 true p β os)
 | .le=>jX (FM.b9 false p β os)
 | .eq=>if(FM.b9 false p β os).1=true then(if(FM.b9 false (p.map λq=>0-q) (0-β) os).1=true then .tuple [.str "follows",.tuple [.list ((FM.b9 false p β os).2.map qD),.list ((FM.b9 false (p.map λq=>0-q) (0-β) os).2.map qD)]]else jX (FM.b9 false (p.map λq=>0-q) (0-β) os))else jX (FM.b9 false p β os)
theorem tZ.neg(h:tZ c e p os):tZ c e (p.map λq=>0-q) os:=by
 refine⟨by rw[length_map];exact h.sz,λq hq=>?_,by rw[sk];exact h.dp,by rw[length_map];exact h.ok⟩;obtain⟨x,hx,rfl⟩:=mem_map.mp hq;exact gx (h.sp x hx)
variable {gt:Dat->Option cN} {gb:aw->Option Fl} {d:Dat} {af:aw} {as:cN}
theorem kW(h1:gt d=some as)(h2:gb (setG Γ as)=some (.nx af)):forL gt gb (d::ds) Γ=forL gt gb ds af:=by
 show(gt d).bind _=_;rw[h1];show(gb (setG Γ as)).bind _=_;rw[h2];rfl
theorem CO{v:Dat}(h1:gt d=some as)(h2:gb (setG Γ as)=some (.rt v)):forL gt gb (d::ds) Γ=some (.rt v):=by
 show(gt d).bind _=_;rw[h1];show(gb (setG Γ as)).bind _=_;rw[h2];rfl
theorem kh{f:ar->Option Dat}(hf:f (bj Γ)=some d)(hi:cI d=some ds):nX gt gb f Γ=forL gt gb ds Γ:=by
 unfold nX;rw[hf];show(cI d).bind _=_;rw[hi];rfl
variable {g1 g2:aw->Option Fl}
theorem yJ(h:g1 Γ=some (.rt d)):du g1 g2 Γ=some (.rt d):=by
 unfold du;rw[h];rfl
abbrev YQ (F:List Dat->Option Dat):Prop:=∀(c:Nat) (o:FM.Ol),c<=4000000->o.2.1.length<=900->(∀q∈o.2.1,SR c q)->SR c o.2.2->F [ao o]=some (.list [ao (.le,o.2.1,o.2.2),ao (.le,o.2.1.map (λq=>0-q),0-o.2.2)])
abbrev Ru (F:List Dat->Option Dat):Prop:=∀(c e:Nat) (o:FM.Ol) (os:List FM.Ol),tZ c e o.2.1 os->SR (FM.bt (c+e) o.2.1.length) o.2.2->F [ao o,.list (os.map ao)]=some (Ai o.1 o.2.1 o.2.2 os)
variable {Fh:List Dat->Option Dat}
theorem HI(T:TX P K mg){Fv:List Dat->Option Dat}(qf:Dn P w K mg base 50 "half_follows" ["line","others"] 2 Fh)(hH:UY Fh)(NG:Dn P w K mg base 50 "halves" ["line"] 1 Fv)(hV:YQ Fv)(U:FnAt K mg "follows" (top 41) ["line","others"]):
  ∃F,Dn P w K mg base 51 "follows" ["line","others"] 2 F/\Ru F:=by
 refine⟨_,cO ["line","others","papers","half","verdict"] U λnd _ _ _ _ _ _ _ hr=>
  (ae (bc (dg hr (aj (a5 0) a8) aT) (ag (ax (ay qf hr (a6 (a5 0) (a6 (a5 1) a9))))) aV)
  (ae (kQ 2 nd (gZ a9))
  (ae (dI PassesOwn.never rfl (ay NG hr (a6 (a5 0) a9)) (aq 3 nd)
  (ae (aC 4 nd (ay qf hr (a6 (a5 3) (a6 (a5 1) a9))))
  (ae (bc (cy hr (aj (a5 4) a8) aT) (ag (ax (a5 4))) aV)
  (ag (ir 2 (aj (a5 4) a8))))))
  (ag (ax (aX (k:=0) (a6 aT (a6 (gV T.tuple (a6 (a5 2) a9)) a9 (hs:=aZ))))))))),?_⟩
 rintro c e ⟨k,p,β⟩ os hL dA;dsimp only at hL dA ⊢;have z2:2<=sizeLine:=sz (by decide);have z0:0<=sizeLine:=zero_le _;have SU:0<sizeLine:=lt_of_lt_of_le (show 0<1000 by decide) (sz (by decide));have Wr:1<sizeLine:=lt_of_lt_of_le (show 1<1000 by decide) (sz (by decide));have S:=hL.sz;have pY:=S.bt;have PR:=S.n5;have xE:c<=FM.bt (c+e) p.length:=le_trans (le_add_right _ _) (FM.pL _ _);have o0:bA (ao (k,p,β)) (.int 0)=some (.str (bw k)):=rfl;cases k with
 |lt=>
  have e1:=hH c e true p β os hL dA;have e1:Fh [ao (.lt,p,β),.list (os.map ao)]=some (Ai .lt p β os):=e1;have k1:gK (.str (bw .lt)) (.str "=")=some (.bool true):=rfl;dsimp![o0,k1,e1]
 |le=>
  have e1:=hH c e false p β os hL dA;have e1:Fh [ao (.le,p,β),.list (os.map ao)]=some (Ai .le p β os):=e1;have k1:gK (.str (bw .le)) (.str "=")=some (.bool true):=rfl;dsimp![o0,k1,e1]
 |eq=>
  have e1:=hH c e false p β os hL dA;have e1:Fh [ao (.le,p,β),.list (os.map ao)]=some (jX (FM.b9 false p β os)):=e1;have e2:=hH c e false (p.map λq=>0-q) (0-β) os hL.neg (by rw[length_map];exact gx dA);have e2:Fh [ao (.le,p.map λq=>0-q,0-β),.list (os.map ao)]=some (jX (FM.b9 false (p.map λq=>0-q) (0-β) os)):=e2;have e3:=hV (FM.bt (c+e) p.length) (.eq,p,β) (by omega) (by show p.length<=900;omega) (λq hq=>(hL.sp q hq).up xE) dA;have e3:Fv [ao (.eq,p,β)]=some (.list [ao (.le,p,β),ao (.le,p.map λq=>0-q,0-β)]):=e3;have k1:gK (.str (bw .eq)) (.str "=")=some (.bool false):=rfl;have eF:Ai .eq p β os=if(FM.b9 false p β os).1=true then(if(FM.b9 false (p.map λq=>0-q) (0-β) os).1=true then .tuple [.str "follows",.tuple [.list ((FM.b9 false p β os).2.map qD),.list ((FM.b9 false (p.map λq=>0-q) (0-β) os).2.map qD)]]else jX (FM.b9 false (p.map λq=>0-q) (0-β) os))else jX (FM.b9 false p β os):=rfl;rw[eF];generalize FM.b9 false p β os=h1 at *;generalize FM.b9 false (p.map λq=>0-q) (0-β) os=h2 at *;generalize ao (.le,p,β)=d1 at *;generalize ao (.le,p.map λq=>0-q,0-β)=d2 at *;generalize ao (.eq,p,β)=dl at *;have kB:cM (.str "breaks") (.str "breaks")=some (.bool true):=rfl;have kF:cM (.str "follows") (.str "breaks")=some (.bool false):=rfl;refine bX ?_;simp!;rw[aA (af:=[~~~(dl),~~~.list (os.map ao),none,none,none]) (by dsimp![o0,k1])];rw[aA (af:=[~~~(dl),~~~.list (os.map ao),some (.own ([])),none,none]) (by dsimp![z0])];have hi:cI (.list [d1,d2])=some [d1,d2]:=rfl;have it:∀x:Bool×List Rat,x.1=true->jX x=.tuple [.str "follows",.list (x.2.map qD)]:=λx h=>if_pos h;have L7:∀x:Bool×List Rat,¬x.1=true->jX x=.tuple [.str "breaks",.tuple (x.2.map qD)]:=λx h=>if_neg h;have a0:∀(s:Str) (d:Dat),bA (.tuple [.str s,d]) (.int 0)=some (.str s):=λ_ _=>rfl;have a1:∀(s:Str) (d:Dat),bA (.tuple [.str s,d]) (.int 1)=some d:=λ_ _=>rfl;by_cases c1:h1.1=true
  ·rw[if_pos c1];rw[it h1 c1]at e1;by_cases c2:h2.1=true
   ·rw[if_pos c2];rw[it h2 c2]at e2;rw[aA (af:=[~~~(dl),~~~.list (os.map ao),some (.own ([.list (h1.2.map qD),.list (h2.2.map qD)])),~~~(d2),~~~.tuple [.str "follows",.list (h2.2.map qD)]]) (by
     rw[kh (d:=.list [d1,d2]) (by dsimp![e3]) hi];rw[kW (as:=[(3,d1)]) (af:=[~~~(dl),~~~.list (os.map ao),some (.own ([.list (h1.2.map qD)])),~~~(d1),~~~.tuple [.str "follows",.list (h1.2.map qD)]]) rfl (by dsimp![e1,a0,a1,kF,SU])];rw[kW (as:=[(3,d2)]) (af:=[~~~(dl),~~~.list (os.map ao),some (.own ([.list (h1.2.map qD),.list (h2.2.map qD)])),~~~(d2),~~~.tuple [.str "follows",.list (h2.2.map qD)]]) rfl (by dsimp![e2,a0,a1,kF,Wr])];rfl)]
    dsimp![gO,z2]
   ·rw[if_neg c2];have e2':=e2;rw[L7 h2 c2]at e2;rw[L7 h2 c2];refine yJ ?_;rw[kh (d:=.list [d1,d2]) (by dsimp![e3]) hi];rw[kW (as:=[(3,d1)]) (af:=[~~~(dl),~~~.list (os.map ao),some (.own ([.list (h1.2.map qD)])),~~~(d1),~~~.tuple [.str "follows",.list (h1.2.map qD)]]) rfl (by dsimp![e1,a0,a1,kF,SU])];rw[CO (as:=[(3,d2)]) (v:=.tuple [.str "breaks",.tuple (h2.2.map qD)]) rfl (by dsimp![e2,a0,a1,kB])]
  ·rw[if_neg c1];rw[L7 h1 c1]at e1;rw[L7 h1 c1];refine yJ ?_;rw[kh (d:=.list [d1,d2]) (by dsimp![e3]) hi];rw[CO (as:=[(3,d1)]) (v:=.tuple [.str "breaks",.tuple (h1.2.map qD)]) rfl (by dsimp![e1,a0,a1,kB])]
theorem JN(T:TX P K mg)(iy:Dn P w K mg base 41 "_law_make" ["n","d"] 2 iw)(U:FnAt K mg "_law_times" (top 48) ["a","b"]):Dn P w K mg base 42 "_law_times" ["a","b"] 2 ka:=by
 obtain⟨f,fd,U,hm,hB⟩:=U.ex;have nd:(["a","b"]:List Str).Nodup:=by decide +kernel
 refine ic U hm hB (N:=["a","b"]) ⟨rfl,rfl,rfl,by decide +kernel,rfl,by decide +kernel,by decide +kernel⟩ rfl (λbF A outer s H E hr=>
  (ag (ax (ay iy hr (a6 (bN (aj (a5 0) a8) (aj (a5 1) a8)) (a6 (bN (aj (a5 0) a8) (aj (a5 1) a8)) a9 (hs:=cC)) (hs:=cC)))))) ?_
 intro ds d hl hF;obtain⟨p,q,r,s,rfl,g1,g2,e⟩:=fN hF;have z:=mul_pos g1.pos g2.pos;cases e;simp![lE,lD,mulM g1.mp g2.mp,mulM g1.mq g2.mq,kT z (g1.mq.mul g2.mq)]
theorem JQ(T:TX P K mg)(U:FnAt K mg "_law_below" (top 49) ["a","b"]):Dn P w K mg base 41 "_law_below" ["a","b"] 2 fQ:=by
 obtain⟨f,fd,U,hm,hB⟩:=U.ex;have nd:(["a","b"]:List Str).Nodup:=by decide +kernel
 refine ic U hm hB (N:=["a","b"]) ⟨rfl,rfl,rfl,by decide +kernel,rfl,by decide +kernel,by decide +kernel⟩ rfl (λbF A outer s H E hr=>
  (ag (ax (yU (bN (aj (a5 0) a8) (aj (a5 1) a8)) (bN (aj (a5 1) a8) (aj (a5 0) a8)))))) ?_
 intro ds d hl hF;obtain⟨p,q,r,s,rfl,g1,g2,e⟩:=fN hF;cases e;simp![lE,lD,mulM g1.mp g2.mq,mulM g2.mp g1.mq,dh]
abbrev vt:=FM.Ol×Rat
abbrev OF (p:vt):Dat:=.tuple [ao p.1,qD p.2]
theorem vD:∀(os:List FM.Ol) (ws:List Rat),dF (os.map ao) (ws.map qD)=(os.zip ws).map OF
 |[],ws=>by simp[dF]
 |x::xs,[]=>by simp[dF]
 |x::xs,y::ys=>by simp only[map_cons,dF,zip_cons_cons,vD xs ys]
def dY (a:List Rat) (p:vt):List Rat:=zipWith (λx q=>x+p.2*q) a (p.1.2.1++[p.1.2.2])
def gP (n:Nat) (l:List vt):List Rat:=l.foldl dY (List.replicate (n+1) 0)
structure vp (D:Int) (u c j n:Nat) (a:List Rat):Prop where
 len:a.length=n+1
 nd:∀x∈a,∃N E:Int,E≠0/\N.natAbs<2^(u+(c+1)*(j+1))/\E.natAbs<=2^(c*j)/\x=(N:Rat)/((D*E:Int):Rat)
abbrev rB (D:Int) (u:Nat) (w:Rat):Prop:=∃W:Int,W.natAbs<2^u/\w=(W:Rat)/(D:Rat)
abbrev rG (c n:Nat) (o:FM.Ol):Prop:=o.2.1.length=n/\(∀q∈o.2.1,SR c q)/\SR c o.2.2
variable {o:FM.Ol}
theorem Cp(h:rG c n o):∀q∈o.2.1++[o.2.2],SR c q:=λq hq=>by
 rcases mem_append.mp hq with h'|h'
 ·exact h.2.1 q h'
 ·rw[mem_singleton.mp h'];exact h.2.2
theorem FK(q:Rat):q=(q.num:Rat)/((q.den:Int):Rat):=by
 have:((q.den:Int):Rat)=(q.den:Rat):=rfl;rw[this,<- Rat.mkRat_eq_div,mkRat_self]
variable {D:Int} {a:List Rat}
theorem BE{w:Rat}(hD:D≠0)(h:vp D u c j n a)(ho:rG c n o)(hw:rB D u w):vp D u c (j+1) n (dY a (o,w)):=by
 refine⟨?_,λx hx=>?_⟩
 ·unfold dY;rw[length_zipWith,h.len,length_append,ho.1];exact min_self _
 ·obtain⟨y,hy,q,hq,rfl⟩:=jv (show x∈zipWith (λx q=>x+w*q) a (o.2.1++[o.2.2])from hx);obtain⟨N,E,hE,hN,Lr,rfl⟩:=h.nd y hy;obtain⟨W,hW,rfl⟩:=hw;have sq:=Cp ho q hq;have yp:=sS q;refine⟨N*(q.den:Int)+W*q.num*E,E*(q.den:Int),mul_ne_zero hE yp,?_,?_,?_⟩
  ·have h1:(N*(q.den:Int)).natAbs<2^(u+(c+1)*(j+1)+c):=cT hN sq.dn;have h2:(W*q.num*E).natAbs<2^(u+(c+1)*(j+1)+c):=by
    have h3:=cT hW sq.ln;rw[natAbs_mul];have p:=pow_pos (n:=c*j) (show 0<2 by decide);have h4:=lt_of_le_of_lt (mul_le_mul_left _ Lr) (Nat.mul_lt_mul_of_pos_right h3 p);rw[<- pow_add]at h4;refine dW h4 ?_;rw[Nat.add_mul,one_mul,mul_add];omega
   have:=rz h1 h2;rw[show u+(c+1)*(j+1+1)=u+(c+1)*(j+1)+c+1 by rw[mul_add (c+1) (j+1) 1];omega];exact this
  ·rw[natAbs_mul,mul_add c j 1,mul_one,pow_add];exact mul_le_mul Lr (Nat.le_of_lt sq.dn)
  ·have d1:((D:Int):Rat)≠0:=λz=>hD (FM.bP.mp z);have d2:(((q.den:Int)):Rat)≠0:=λz=>yp (FM.bP.mp z);have d3:((E:Int):Rat)≠0:=λz=>hE (FM.bP.mp z);have e1:=FK q;rw[Rat.intCast_add,intCast_mul,intCast_mul,intCast_mul,intCast_mul,intCast_mul,intCast_mul];conv=>lhs;rw[e1]
   generalize ((q.den:Int):Rat)=dd at *;generalize (q.num:Rat)=nn at *;grind
theorem vH:vp D u c 0 n (List.replicate (n+1) 0):=by
 refine⟨length_replicate,λx hx=>⟨0,1,by decide,pow_pos (by decide),pow_pos (by decide),?_⟩⟩;rw[(mem_replicate.mp hx).2];have:((0:Int):Rat)=0:=rfl;rw[this];grind
variable {d:Nat}
theorem Dy(hD:D≠0)(hd:D.natAbs<=2^d)(h:vp D u c j n a):∀x∈a,SR (u+d+(c+1)*(j+1)) x:=λx hx=>by
 obtain⟨N,E,hE,hN,Lr,rfl⟩:=h.nd x hx;refine mh (mul_ne_zero hD hE) (dW hN (by omega)) ?_;rw[natAbs_mul];have:=mul_le_mul hd Lr;rw[<- pow_add]at this;refine lt_of_le_of_lt this (Nat.pow_lt_pow_right (by decide) ?_);rw[Nat.add_mul,one_mul,mul_add];omega
theorem Kg{w:Rat}(hD:D≠0)(hd:D.natAbs<=2^d)(h:rB D u w):SR (u+d+1) w:=by
 obtain⟨W,hW,rfl⟩:=h;exact mh hD (dW hW (by omega)) (lt_of_le_of_lt hd (Nat.pow_lt_pow_right (by decide) (by omega)))
theorem ui{D:Int}{u c n:Nat}(hD:D≠0):∀(l:List vt) (j:Nat) (a:List Rat),(∀p∈l,rG c n p.1/\rB D u p.2)->vp D u c j n a->vp D u c (j+l.length) n (l.foldl dY a)
 |[],j,a,_,h=>h
 |p::l,j,a,hp,h=>by
  rw[foldl_cons,length_cons,show j+(l.length+1)=j+1+l.length by omega];exact ui hD l (j+1) _ (λq hq=>hp q (mem_cons_of_mem _ hq)) (BE hD h (hp p mem_cons_self).1 (hp p mem_cons_self).2)
theorem AK{x:Rat}(h:xs[i]?=some x):bA (.list (xs.map qD)) (.int (0+(i:Int)))=some (qD x):=by
 rw[Int.zero_add];exact AJ qD h
theorem yt{α β γ:Type}{f:α->β->γ}:∀{xs:List α} {ys:List β} {i:Nat} {z:γ},(zipWith f xs ys)[i]?=some z->∃x y,xs[i]?=some x/\ys[i]?=some y/\z=f x y
 |[],ys,i,z,h=>by simp at h
 |x::xs,[],i,z,h=>by simp at h
 |x::xs,y::ys,0,z,h=>by simp at h;exact⟨x,y,rfl,rfl,h.symm⟩
 |x::xs,y::ys,i+1,z,h=>by
  obtain⟨a,b,h1,h2,h3⟩:=yt (xs:=xs) (ys:=ys) (i:=i) (by simpa using h);exact⟨a,b,by simpa using h1,by simpa using h2,h3⟩
theorem Mg(n:Nat)(h:n<=1000):jI [.int ((n:Int)+1)]=some (gH 0 (n+1)):=by
 have e:((n:Int)+1).toNat=n+1:=by omega
 rw[Oi _ (by omega) (by omega),e]
variable {fi:ar->Option (List Dat)} {out:List Dat}
theorem xJ{aW:List (Option Nat)}{ft:ar->Option Bool}{fe:ar->Option Dat}(h:fi ρ=some ds)(hl:ds.length<sizeLine)(hc:bV gt ft fe (dm aW ρ) ds=some out):fL (fB aW gt ft fe fi) ρ=some (.list out):=by
 unfold fL fB;rw[h,Option.bind_some,if_pos hl,hc];rfl
structure vv (D:Int) (u d c n:Nat) (os:List FM.Ol) (ws:List Rat):Prop where
 D0:D≠0
 Dd:D.natAbs<=2^d
 ol:∀o∈os,rG c n o
 wt:∀w∈ws,rB D u w
 sz:u+d+(c+1)*(os.length+1)<=3900000
 n1:n<=100
abbrev Rb (F:List Dat->Option Dat):Prop:=∀(D:Int) (u d c n:Nat) (os:List FM.Ol) (ws:List Rat),vv D u d c n os ws->F [.list (os.map ao),.list (ws.map qD),.int (n:Int)]=some (.tuple [.tuple (((gP n (os.zip ws)).take n).map qD),qD ((gP n (os.zip ws)).getD n 0)])
theorem Qy(T:TX P K mg)(kX:Dn P w K mg base 42 "_law_plus" ["a","b"] 2 j6)(u0:Dn P w K mg base 42 "_law_times" ["a","b"] 2 ka)(U:FnAt K mg "_law_together" (top 54) ["others","weights","many"]):
  ∃F,Dn P w K mg base 43 "_law_together" ["others","weights","many"] 3 F/\Rb F:=by
 refine⟨_,cO ["others","weights","many","sums","other","weight","numbers"] U λnd _ _ _ _ _ _ _ hr=>
  (ae (aC 3 nd (cE (kj rfl (j4 (N':=["k"])) (ju T.range (a6 (eI (a5 2) a8) a9 (hs:=cC))) (λ_ _ _ _=>(aq 0 (show(["k"]:List Str).Nodup by decide +kernel))) (λ_ _ _ _=>d9) (λ_ _ _ _=>(aX (k:=0) (a6 a8 (a6 a8 a9)))) (cV rfl))))
  (ae (jT PassesOwn.never rfl (mI T.zip (a6 (a5 0) (a6 (a5 1) a9))) (c8 (n:=2) rfl (aI (aq 4 nd) (aI (aq 5 nd) bQ)))
  (ae (aC 6 nd (iU (cE (ny T.list (a6 (aj (a5 4) a8) a9 (hs:=aM)))) (eC (a6 (aj (a5 4) a8) a9 (hs:=aM)))))
  (ag (aC 3 nd (cE (kj rfl (fw (tn:=["k"]) (fv:=["weight","sums","numbers"]) (js:=[5,3,6]) rfl (by decide +kernel) (by decide +kernel) rfl (by decide +kernel) (by decide +kernel) rfl
   (λx hx=>by((have eh:x="weight"\/x="sums"\/x="numbers":=(by simpa using hx));(rcases eh with rfl|rfl|rfl<;>exact⟨_,rfl⟩)))
   (λp hp=>by((have fc:p=(("weight" : Str),(5:Nat))\/p=(("sums" : Str),(3:Nat))\/p=(("numbers" : Str),(6:Nat)):=(by simpa using hp));(rcases fc with rfl|rfl|rfl<;>exact⟨rfl,.inr (.inl rfl),.inl rfl,λz=>by cases z⟩)))) (ju T.range (a6 (eI (a5 2) a8) a9 (hs:=cC))) (λ_ _ _ _=>(aq 0 (show(["k","weight","sums","numbers"]:List Str).Nodup by decide +kernel))) (λ_ _ _ _=>d9) (λ_ _ _ _=>(ay kX hr (a6 (aj (a5 2) (a5 0)) (a6 (ay u0 hr (a6 (a5 1) (a6 (aj (a5 3) (a5 0)) a9 (hs:=aM)))) a9 (hs:=aZ)) (hs:=aM)))) (cV rfl)))))))
  (ag (ax (aX (k:=0) (a6 (gV T.tuple (a6 (hG (a5 3) iS (iR (a5 2))) a9 (hs:=aM))) (a6 (aj (a5 3) (a5 2)) a9 (hs:=aM)) (hs:=aZ))))))),?_⟩
 intro D u d c m os ws hI;have hm100:=hI.n1;have z2:2<=sizeLine:=sz (by decide);have z1:1<=sizeLine:=sz (by decide);have zm:m+1<sizeLine:=lt_of_lt_of_le (show m+1<1000 by omega) (sz (by decide));have zc:m+1<=sizeLine:=Nat.le_of_lt zm;have eR:=Mg m (by omega);have Uq:bV (aName 0) fk (kx (bh (fC (.int 0)) (bh (fC (.int 1)) cG))) [none] (gH 0 (m+1))=some ((List.replicate (m+1) (0:Rat)).map qD):=by
  refine de _ _ (by rw[iq,length_map,length_replicate]) λi d o h1 h2=>⟨[(0,d)],rfl,?_⟩;have:o=qD 0:=by
   obtain⟨x,hx,rfl⟩:=mem_map.mp (mem_of_getElem? h2);rw[(mem_replicate.mp hx).2]
  rw[this,q0];simp![z2]
 have L9:∀p∈os.zip ws,rG c m p.1/\rB D u p.2:=λp hp=>⟨hI.ol p.1 (of_mem_zip hp).1,hI.wt p.2 (of_mem_zip hp).2⟩;have X1:(os.zip ws).length<=os.length:=by rw[length_zip];exact Nat.min_le_left _ _
 have hsz:=hI.sz;refine bX ?_;simp!;generalize Tt:(List.replicate (m+1) (0:Rat))=a0 at Uq;have U3:vp D u c 0 m a0:=by rw[<- Tt];exact vH
 rw[aA (af:=[~~~.list (os.map ao),~~~.list (ws.map qD),~~~.int (m:Int),~~~.list (a0.map qD),none,none,none]) (kP (xJ (mQ (as:=[.int ((m:Int)+1)]) (by simp![c9]) eR) (by rw[iq];exact zm) Uq))];refine gm (I:=_) (ly (l:=os.zip ws) (s:=a0) OF (fun(a:List Rat) Γ=>∃x4 x5 x6,Γ=[~~~.list (os.map ao),~~~.list (ws.map qD),~~~.int (m:Int),~~~.list (a.map qD),x4,x5,x6])
   (fun(a:List Rat) l=>∃j,vp D u c j m a/\j+l.length<=os.length/\∀p∈l,rG c m p.1/\rB D u p.2) dY (by rw[<- vD];rfl) ⟨0,U3,by omega,L9⟩ ⟨none,none,none,rfl⟩ ?_) ?_
 ·rintro a ⟨o,x⟩ l Γ ⟨j,hA,Xq,iJ⟩ ⟨x4,x5,x6,rfl⟩;rw[length_cons]at Xq;obtain⟨ho,hx⟩:=iJ (o,x) mem_cons_self;dsimp only at ho hx;have hS:=BE hI.D0 hA ho hx;have Xh:(c+1)*(j+1)<=(c+1)*os.length:=mul_le_mul_left _ (by omega);have hmm:(c+1)*(os.length+1)=(c+1)*os.length+(c+1):=by rw[mul_add,mul_one]
  have hmo:(c+1)<=(c+1)*os.length:=Nat.le_mul_of_pos_right _ (by omega);refine⟨[(4,ao o),(5,qD x)],rfl,?_⟩;dsimp!;have Wf:jN (.list (o.2.1.map qD)) (.list [qD o.2.2])=some (.list ((o.2.1++[o.2.2]).map qD)):=vj o.2.1 [o.2.2] (by rw[ho.1];show m+1<=1000;omega);have SG:sd [.tuple (o.2.1.map qD)]=some (o.2.1.map qD):=rfl;have o1:bA (ao o) (.int 1)=some (.tuple (o.2.1.map qD)):=rfl;have o2:bA (ao o) (.int 2)=some (qD o.2.2):=rfl;have ec:bV (aName 0) fk (kK 2 j6 (bh (L3.f2 bA (aN 2) (aN 0)) (bh (kK 2 ka (bh (aN 1) (bh (L3.f2 bA (aN 3) (aN 0)) cG))) cG))) [none,some (qD x),some (.list (a.map qD)),some (.list ((o.2.1++[o.2.2]).map qD))] (gH 0 (m+1))=some ((dY a (o,x)).map qD):=by
   refine de _ _ (by rw[iq,length_map,hS.len]) λi d' o' h1 h2=>?_;obtain⟨hi,rfl⟩:=tp h1;refine⟨[(0,.int (0+(i:Int)))],rfl,?_⟩;rw[getElem?_map]at h2;cases hz:(dY a (o,x))[i]? with
   |none=>rw[hz]at h2;cases h2
   |some z=>
    rw[hz]at h2;cases h2;obtain⟨p,q,g1,g2,rfl⟩:=yt (show(zipWith (λy q=>y+x*q) a (o.2.1++[o.2.2]))[i]?=some z from hz);have sp:=Dy hI.D0 hI.Dd hA p (mem_of_getElem? g1);have sq:=Cp ho q (mem_of_getElem? g2);have sx:=Kg hI.D0 hI.Dd hx;have a1:=AK g1;have a2:=AK g2;have e1:=wJ sx sq (by omega) (by omega);have e2:=lG sp (sx.mul sq) (by omega) (by omega);dsimp![a1,a2,e1,e2]
  rw[aA (af:=[~~~.list (os.map ao),~~~.list (ws.map qD),~~~.int (m:Int),~~~.list (a.map qD),~~~(ao o),~~~(qD x),~~~.list ((o.2.1++[o.2.2]).map qD)]) (by dsimp![o1,o2,SG,z1,Wf])];refine⟨[~~~.list (os.map ao),~~~.list (ws.map qD),~~~.int (m:Int),~~~.list ((dY a (o,x)).map qD),~~~(ao o),~~~(qD x),~~~.list ((o.2.1++[o.2.2]).map qD)],?_,⟨_,_,_,rfl⟩,j+1,hS,by omega,λp hp=>iJ p (mem_cons_of_mem _ hp)⟩;exact kP (xJ (mQ (as:=[.int ((m:Int)+1)]) (by simp![c9]) eR) (by rw[iq];exact zm) ec)
 ·rintro af ⟨x4,x5,x6,rfl⟩;have eT:(os.zip ws).foldl dY a0=gP m (os.zip ws):=by unfold gP;rw[Tt]
  have hT:=ui hI.D0 (os.zip ws) 0 a0 L9 U3;rw[eT]at hT ⊢;generalize gP m (os.zip ws)=y at *;have hyl:=hT.len;have ec:uv (.list (y.map qD)) none (some (m:Int))=some (.list ((y.take m).map qD)):=by
   show some (Dat.list (L3.cutD (y.map qD) none (some (m:Int))))=_;rw[xS (by rw[length_map];omega),map_take]
  have ei:bA (.list (y.map qD)) (.int (m:Int))=some (qD (y.getD m 0)):=AJ qD (by rw[getD_eq_getElem?_getD,getElem?_eq_getElem (by omega)];rfl);dsimp![pH,nC,nD,qb,ec,ei,gO,z2]
abbrev KG (q:Rat):Int×Int:=(q.num,(q.den:Int))
abbrev aR (xs:List Rat):Dat:=.tuple (xs.map qD)
theorem FN(xs:List Rat):aR xs=qW (xs.map KG):=by
 show Dat.tuple (xs.map qD)=Dat.tuple ((xs.map KG).map jY);rw[map_map];rfl
theorem Mu:xs.map KG=ys.map KG↔xs=ys:=by
 constructor
 ·intro h;induction xs generalizing ys with
  |nil=>cases ys with|nil=>rfl|cons y ys=>cases h
  |cons x xs ih=>
   cases ys with
   |nil=>cases h
   |cons y ys=>
    rw[map_cons,map_cons]at h;obtain⟨h1,h2⟩:=List.cons.inj h;rw[DT.mp h1,ih h2]
 ·intro h;rw[h]
theorem LB(xs ys:List Rat):cM (aR xs) (aR ys)=some (.bool (decide (xs=ys))):=by
 rw[FN,FN,N1];congr 2
 exact decide_eq_decide.mpr Mu
def Eu (p:vt):Prop:=p.1.1≠.eq/\p.2<0
def xb (s:Bool) (p:vt):Bool:=s || (decide (p.1.1=.lt)&&decide (0<p.2))
def uD (s:Bool) (p:List Rat) (β:Rat) (l:List vt):Bool:=open Classical in if ∃q∈l,Eu q then false else
 (decide ((gP p.length l).take p.length=p)&&(decide ((gP p.length l).getD p.length 0<β) || (decide ((gP p.length l).getD p.length 0=β)&&(!s || l.foldl xb false)))) || (decide ((gP p.length l).take p.length=List.replicate p.length 0)&&(decide ((gP p.length l).getD p.length 0<0) || (decide ((gP p.length l).getD p.length 0=0)&&l.foldl xb false)))
theorem vT(q:Rat):q.num<0↔q<0:=by
 have:=Fr.yR q 0;have e1:(0:Rat).num=0:=rfl;have e2:((0:Rat).den:Int)=1:=rfl;rw[e1,e2,Int.mul_one,Int.zero_mul]at this;exact this.symm
theorem MN(q:Rat):0<q.num↔0<q:=by
 have:=Fr.yR 0 q;have e1:(0:Rat).num=0:=rfl;have e2:((0:Rat).den:Int)=1:=rfl;rw[e1,e2,Int.mul_one,Int.zero_mul]at this;exact this.symm
theorem J7(q:Rat):q.num=0↔q=0:=Rat.num_eq_zero
theorem xo(q:Rat):bA (qD q) (.int 0)=some (.int q.num):=rfl
theorem Oz(q:Rat):bA (qD q) (.int 1)=some (.int (q.den:Int)):=rfl
abbrev Uz (F:List Dat->Option Dat):Prop:=∀(D:Int) (u d c:Nat) (s:Bool) (p:List Rat) (β:Rat) (os:List FM.Ol) (ws:List Rat),vv D u d c p.length os ws->SR 3900000 β->F [.str (f9 s),aR p,qD β,.list (os.map ao),.list (ws.map qD)]=some (.bool (uD s p β (os.zip ws)))
theorem JO(T:TX P K mg)(oh:Dn P w K mg base 43 "_law_together" ["others","weights","many"] 3 Ft)(CC:Rb Ft)(ub:Dn P w K mg base 43 "_law_below" ["a","b"] 2 fQ)(U:FnAt K mg "_law_right" (top 55) ["kind","parts","bound","others","weights"]):
  ∃F,Dn P w K mg base 44 "_law_right" ["kind","parts","bound","others","weights"] 5 F/\Uz F:=by
 refine⟨_,cO ["kind","parts","bound","others","weights","strict","other","weight","found","sum_of","less","nought"] U λnd _ _ _ _ _ _ _ hr=>
  (ae (aC 5 nd cZ)
  (ae (jT PassesOwn.never rfl (mI T.zip (a6 (a5 3) (a6 (a5 4) a9))) (c8 (n:=2) rfl (aI (aq 6 nd) (aI (aq 7 nd) bQ)))
  (ae (bc (cD (fT (dg hr (aj (a5 6) a8) aT) (f6 (ox (aj (a5 7) a8) a8)))) (ag (ax cZ)) aV)
  (ag (aC 5 nd (qz (a5 5) (fP (ja (iT hr (aj (a5 6) a8) aT) (fP (FT (aj (a5 7) a8) a8)))))))))
  (ae (mH (ay oh hr (a6 (a5 3) (a6 (a5 4) (a6 (cX T.len (a6 (a5 1) a9)) a9 (hs:=aZ))))) (c8 (n:=2) rfl (aI (aq 8 nd) (aI (aq 9 nd) bQ))))
  (ae (aC 10 nd (ay ub hr (a6 (a5 9) (a6 (a5 2) a9))))
  (ae (bc (cD (fT (cy hr (a5 8) (a5 1)) (f6 (cD (cW (bJ (a5 10)) (d7 (cD (fT (cy hr (a5 9) (a5 2)) (f6 (cD (cW (cy hr (a5 0) aT) (d7 (bJ (a5 5)))))))))))))) (ag (ax cZ)) aV)
  (ae (aC 11 nd (gV T.tuple (a6 (cE (gn rfl (j4 (N':=["part"])) (a5 1) (λ_ _ _ _=>(aq 0 (show(["part"]:List Str).Nodup by decide +kernel))) (λ_ _ _ _=>d9) (λ_ _ _ _=>(aX (k:=0) (a6 a8 (a6 a8 a9)))) (cV rfl))) a9)))
  (ag (ax (ja (iT hr (a5 8) (a5 11)) (fP (qz (yU (aj (a5 9) a8) a8) (fP (ja (iT hr (aj (a5 9) a8) a8) (fP (a5 5))))))))))))))),?_⟩
 intro D u d c s p β os ws hI dA;have z2:2<=sizeLine:=sz (by decide);have hn1:=hI.n1;have zl:p.length<sizeLine:=lt_of_lt_of_le (show p.length<1000 by omega) (sz (by decide));have e2:=CC D u d c p.length os ws hI;have L9:∀q∈os.zip ws,rG c p.length q.1/\rB D u q.2:=λq hq=>⟨hI.ol q.1 (of_mem_zip hq).1,hI.wt q.2 (of_mem_zip hq).2⟩;have hT:=ui hI.D0 (os.zip ws) 0 _ L9 (vH (n:=p.length));have hT:vp D u c (0+(os.zip ws).length) p.length (gP p.length (os.zip ws)):=hT;have X1:(os.zip ws).length<=os.length:=by rw[length_zip];exact Nat.min_le_left _ _
 have hsz:=hI.sz;have Xh:(c+1)*((os.zip ws).length+1)<=(c+1)*(os.length+1):=mul_le_mul_left _ (by omega);have XE:SR 3900000 ((gP p.length (os.zip ws)).getD p.length 0):=by
  have hl:=hT.len;refine(Dy hI.D0 hI.Dd hT _ ?_).up (by rw[zero_add];omega);rw[getD_eq_getElem?_getD,getElem?_eq_getElem (by omega)];exact getElem_mem _
 have lp:kU [aR p]=some (.int p.length):=by show some (Dat.int ((p.map qD).length:Nat))=_;rw[length_map]
 have k1:cM (.str (f9 s)) (.str "<=")=some (.bool (!s)):=by cases s<;>rfl
 refine bX ?_;simp!;rw[aA (af:=[~~~.str (f9 s),~~~(aR p),~~~(qD β),~~~.list (os.map ao),~~~.list (ws.map qD),~~~.bool false,none,none,none,none,none,none]) (by simp![])];refine Mc (JA (l:=os.zip ws) (s:=false) (r:=.bool false) OF (fun(t:Bool) Γ=>∃x6 x7,Γ=[~~~.str (f9 s),~~~(aR p),~~~(qD β),~~~.list (os.map ao),~~~.list (ws.map qD),~~~.bool t,x6,x7,none,none,none,none]) xb Eu (by rw[<- vD];rfl) ⟨none,none,rfl⟩ ?_ ?_) ?_ ?_
 ·rintro t ⟨o,x⟩ Γ w6 ⟨x6,x7,rfl⟩;refine⟨[(6,ao o),(7,qD x)],rfl,?_⟩;dsimp!;have o0:bA (ao o) (.int 0)=some (.str (bw o.1)):=rfl;refine⟨[~~~.str (f9 s),~~~(aR p),~~~(qD β),~~~.list (os.map ao),~~~.list (ws.map qD),~~~.bool (xb t (o,x)),~~~(ao o),~~~(qD x),none,none,none,none],?_,_,_,rfl⟩;rw[aA (af:=[~~~.str (f9 s),~~~(aR p),~~~(qD β),~~~.list (os.map ao),~~~.list (ws.map qD),~~~.bool t,~~~(ao o),~~~(qD x),none,none,none,none]) (by
   by_cases c1:o.1=.eq
   ·have k1:=(i6 o.1).mpr c1;dsimp![o0,jJ,eq_true k1]
   ·have k1:¬bw o.1="=":=λz=>c1 ((i6 o.1).mp z);have c2:¬x.num<0:=λz=>w6 ⟨c1,(vT x).mp z⟩;dsimp![o0,xo,jJ,dh,eq_false k1,eq_false c2])]
  have e1:cM (.str (bw o.1)) (.str "<")=some (.bool (decide (o.1=.lt))):=by rw[cS];congr 2;exact decide_eq_decide.mpr (yi o.1)
  have e2:Hb (.int x.num) (.int 0)=some (.bool (decide (0<x))):=by rw[gS];congr 2;exact decide_eq_decide.mpr (MN x)
  exact kP (LA (b:=decide (o.1=.lt)&&decide (0<x)) (by simp![]) (An (by dsimp![o0,e1]) (by dsimp![xo,e2])))
 ·rintro t ⟨o,x⟩ Γ w6 ⟨x6,x7,rfl⟩;refine⟨[(6,ao o),(7,qD x)],rfl,?_⟩;dsimp!;have o0:bA (ao o) (.int 0)=some (.str (bw o.1)):=rfl;have k1:¬bw o.1="=":=λz=>w6.1 ((i6 o.1).mp z);have c2:x.num<0:=(vT x).mpr w6.2;dsimp![o0,xo,jJ,dh,eq_false k1,eq_true c2]
 ·rintro af Sv ⟨x6,x7,rfl⟩;have Xe:¬ ∃p∈os.zip ws,Eu p:=fun⟨p,hp,hb⟩=>Sv p hp hb;unfold uD;rw[if_neg Xe];generalize gP p.length (os.zip ws)=y at *;generalize pU:(os.zip ws).foldl xb false=sB at *;generalize U0:y.getD p.length 0=b0 at *;have e3:=mz XE dA (by decide) (by decide);have e5:=LB (y.take p.length) p;have e6:=LB (y.take p.length) (List.replicate p.length 0);have e7:=pJ b0 β;have e8:Gx (.int b0.num) (.int 0)=some (.bool (decide (b0<0))):=by rw[dh];congr 2;exact decide_eq_decide.mpr (vT b0)
  have e9:cM (.int b0.num) (.int 0)=some (.bool (decide (b0=0))):=by rw[fq];congr 2;exact decide_eq_decide.mpr (J7 b0)
  rw[aA (af:=[~~~.str (f9 s),~~~(aR p),~~~(qD β),~~~.list (os.map ao),~~~.list (ws.map qD),~~~.bool sB,x6,x7,~~~(aR (y.take p.length)),~~~(qD b0),none,none]) (by dsimp![lp,e2])];rw[aA (af:=[~~~.str (f9 s),~~~(aR p),~~~(qD β),~~~.list (os.map ao),~~~.list (ws.map qD),~~~.bool sB,x6,x7,~~~(aR (y.take p.length)),~~~(qD b0),~~~.bool (decide (b0<β)),none]) (by dsimp![e3])];have Kj:=sj (ft:=bS (L3.f2 cM (aN 8) (aN 1))) (gt:=jo (lK (aN 10)) (jC (bS (L3.f2 cM (aN 9) (aN 2))) (jo (bS (L3.f2 cM (aN 0) (fC (.str "<=")))) (lK (aN 5)))))
   (ρ:=c7 [~~~.str (f9 s),~~~(aR p),~~~(qD β),~~~.list (os.map ao),~~~.list (ws.map qD),~~~.bool sB,x6,x7,~~~(aR (y.take p.length)),~~~(qD b0),~~~.bool (decide (b0<β)),none])
   (a:=decide (y.take p.length=p)) (by dsimp![e5]) (Hj (a:=decide (b0<β)) (by dsimp![]) (sj (a:=decide (b0=β)) (by dsimp![e7]) (Hj (a:=!s) (b:=sB) (by dsimp![k1]) (by dsimp![]))))
  cases q:(decide (y.take p.length=p)&&(decide (b0<β) || (decide (b0=β)&&(!s || sB))))with
  |true=>
   rw[q]at Kj;rw[Bool.true_or];exact(Mf (nt Kj)).trans rfl
  |false=>
   rw[q]at Kj;rw[Bool.false_or];refine(aA (nv Kj)).trans ?_;have ec:bV (aName 0) fk (kx (bh (fC (.int 0)) (bh (fC (.int 1)) cG))) [none] (p.map qD)=some ((List.replicate p.length (0:Rat)).map qD):=by
    refine de _ _ (by rw[length_map,length_map,length_replicate]) λi d o h1 h2=>⟨[(0,d)],rfl,?_⟩;have:o=qD 0:=by
     obtain⟨x,hx,rfl⟩:=mem_map.mp (mem_of_getElem? h2);rw[(mem_replicate.mp hx).2]
    rw[this,q0];simp![z2]
   refine(aA (af:=[~~~.str (f9 s),~~~(aR p),~~~(qD β),~~~.list (os.map ao),~~~.list (ws.map qD),~~~.bool sB,x6,x7,~~~(aR (y.take p.length)),~~~(qD b0),~~~.bool (decide (b0<β)),~~~(aR (List.replicate p.length 0))]) (by
    dsimp![fB,length_map,zl,ec,gO])).trans ?_
   refine BP (An (by dsimp![e6]) (LA (by dsimp![xo,e8]) (An (by dsimp![xo,e9]) (by dsimp![]))))
 ·intro w6;unfold uD;rw[if_pos w6]
theorem Ek(d:α)(x:α)(xs:List α)(i:Nat):(x::xs).getD (i+1) d=xs.getD i d:=by
 rw[getD_eq_getElem?_getD,getD_eq_getElem?_getD,getElem?_cons_succ]
theorem M5{w:Rat}(ha:a.length=n+1)(ho:o.2.1.length=n)(hc:c<=n):(dY a (o,w)).getD c 0=a.getD c 0+w*(if c<n then o.2.1.getD c 0 else o.2.2):=by
 show(zipWith (λx q=>x+w*q) a (o.2.1++[o.2.2])).getD c 0=_;rw[getD_eq_getElem?_getD,getD_eq_getElem?_getD,List.getElem?_zipWith];have h1:c<a.length:=by omega
 have h2:c<(o.2.1++[o.2.2]).length:=by rw[length_append,ho];show c<n+1;omega
 rw[getElem?_eq_getElem h1,getElem?_eq_getElem h2];show a[c]+w*(o.2.1++[o.2.2])[c]=a[c]+_;congr 2
 by_cases Cz:c<n
 ·rw[if_pos Cz,List.getElem_append_left (by omega),getD_eq_getElem?_getD,getElem?_eq_getElem (by omega)];rfl
 ·rw[if_neg Cz,List.getElem_append_right (by omega)];simp
theorem BD{w:Rat}(ha:a.length=n+1)(ho:o.2.1.length=n):(dY a (o,w)).length=n+1:=by
 show(zipWith _ a (o.2.1++[o.2.2])).length=_;rw[length_zipWith,ha,length_append,ho];exact min_self _
theorem yy{n c:Nat}(hc:c<=n):∀(os:List FM.Ol) (ws a:List Rat),(∀o∈os,o.2.1.length=n)->ws.length=os.length->a.length=n+1->
  ((os.zip ws).foldl dY a).getD c 0=a.getD c 0+FM.sm os.length (λi=>ws.getD i 0*(if c<n then FM.iI os i c else FM.k8 os i))
 |[],ws,a,_,_,_=>by show a.getD c 0=a.getD c 0+0;grind
 |o::os,[],a,_,h,_=>by cases h
 |o::os,w::ws,a,ho,hl,ha=>by
  rw[zip_cons_cons,foldl_cons,yy hc os ws _ (λp hp=>ho p (mem_cons_of_mem _ hp)) (Nat.succ.inj hl) (BD ha (ho o mem_cons_self)),M5 ha (ho o mem_cons_self) hc,length_cons,FM.td];have e0:(w::ws).getD 0 0*(if c<n then FM.iI (o::os) 0 c else FM.k8 (o::os) 0)=w*(if c<n then o.2.1.getD c 0 else o.2.2):=rfl;have e1:FM.sm os.length (λi=>(w::ws).getD (i+1) 0*(if c<n then FM.iI (o::os) (i+1) c else FM.k8 (o::os) (i+1)))=FM.sm os.length (λi=>ws.getD i 0*(if c<n then FM.iI os i c else FM.k8 os i)):=FM.aQ λi _=>by
   unfold FM.iI FM.k8;rw[Ek,Ek]
  rw[e0,e1];grind
variable {ws:List Rat}
theorem t6(ho:∀o∈os,o.2.1.length=n)(hl:ws.length=os.length)(hc:c<n):(gP n (os.zip ws)).getD c 0=FM.fZ os ws c:=by
 unfold gP;rw[yy (Nat.le_of_lt hc) os ws _ ho hl length_replicate,FM.oO];unfold FM.fZ;rw[FM.aQ (g:=λi=>ws.getD i 0*FM.iI os i c) (λi _=>by rw[if_pos hc])];grind
theorem BC(ho:∀o∈os,o.2.1.length=n)(hl:ws.length=os.length):(gP n (os.zip ws)).getD n 0=FM.jF os ws:=by
 unfold gP;rw[yy (le_refl _) os ws _ ho hl length_replicate,FM.oO];unfold FM.jF;rw[FM.aQ (g:=λi=>ws.getD i 0*FM.k8 os i) (λi _=>by rw[if_neg (lt_irrefl n)])];grind
theorem BB:∀{os:List FM.Ol} {ws:List Rat},(∀o∈os,o.2.1.length=n)->(gP n (os.zip ws)).length=n+1:=by
 have key:∀(os:List FM.Ol) (ws a:List Rat),(∀o∈os,o.2.1.length=n)->a.length=n+1->((os.zip ws).foldl dY a).length=n+1:=by
  intro os;induction os with
  |nil=>intro ws a _ h;exact h
  |cons o os ih=>
   intro ws a ho h;cases ws with
   |nil=>exact h
   |cons w ws=>exact ih ws _ (λp hp=>ho p (mem_cons_of_mem _ hp)) (BD h (ho o mem_cons_self))
 intro os ws ho;exact key os ws _ ho length_replicate
theorem zF(hl:xs.length=ys.length)(h:∀c,c<ys.length->xs.getD c 0=ys.getD c 0):xs=ys:=by
 refine List.ext_getElem hl λi h1 h2=>?_;have:=h i h2;rw[getD_eq_getElem?_getD,getD_eq_getElem?_getD,getElem?_eq_getElem h1,getElem?_eq_getElem h2]at this;exact this
theorem qo(h:c<n):(xs.take n).getD c 0=xs.getD c 0:=by
 rw[getD_eq_getElem?_getD,getD_eq_getElem?_getD,List.getElem?_take_of_lt h]
theorem Fc:∀(l:List vt) (s:Bool),l.foldl xb s=(s || l.any λp=>decide (p.1.1=.lt)&&decide (0<p.2))
 |[],s=>by simp
 |p::l,s=>by rw[foldl_cons,Fc l,any_cons];unfold xb;rw[Bool.or_assoc]
theorem NK(h:i<os.length)(hl:ws.length=os.length):(os.getD i (.eq,[],0),ws.getD i 0)∈os.zip ws:=by
 have h1:(os.zip ws)[i]?=some (os[i],ws[i]):=by rw[List.getElem?_zip_eq_some];exact⟨getElem?_eq_getElem h,getElem?_eq_getElem (by omega)⟩
 have h2:=mem_of_getElem? h1;rw[getD_eq_getElem?_getD,getD_eq_getElem?_getD,getElem?_eq_getElem h,getElem?_eq_getElem (show i<ws.length by omega)];exact h2
theorem NJ{q:vt}(h:q∈os.zip ws):∃i,i<os.length/\q.1=os.getD i (.eq,[],0)/\q.2=ws.getD i 0:=by
 obtain⟨i,hi⟩:=List.getElem?_of_mem h;rw[List.getElem?_zip_eq_some]at hi;refine⟨i,(List.getElem?_eq_some_iff.mp hi.1).1,?_,?_⟩
 ·rw[getD_eq_getElem?_getD,hi.1];rfl
 ·rw[getD_eq_getElem?_getD,hi.2];rfl
variable {β:Rat}
theorem qw{s:Bool}(ho:∀o∈os,o.2.1.length=p.length)(h:FM.Right os ws s p β):uD s p β (os.zip ws)=true:=by
 obtain⟨ha,h⟩:=h;have hl:=ha.len;have nb:¬ ∃q∈os.zip ws,Eu q:=λaP=>by
  obtain⟨q,hq,hb⟩:=aP;obtain⟨i,hi,e1,e2⟩:=NJ hq;have:=ha.nn i hi (by unfold FM.knd;rw[<- e1];exact hb.1);rw[<- e2]at this;have:=hb.2;grind
 have hst:FM.t9 os ws->(os.zip ws).foldl xb false=true:=λaP=>by
  obtain⟨i,hi,h1,h2⟩:=aP;rw[Fc,Bool.false_or,List.any_eq_true];exact⟨_,NK hi hl,by
   show(decide ((os.getD i (.eq,[],0)).1=.lt)&&decide (0<ws.getD i 0))=true;rw[decide_eq_true h2,decide_eq_true (show(os.getD i (.eq,[],0)).1=.lt from h1)];rfl⟩
 have eV:=BB (n:=p.length) (ws:=ws) ho;unfold uD;rw[if_neg nb,BC ho hl];rcases h with⟨h1,h2⟩|⟨h1,h2⟩
 ·have e:(gP p.length (os.zip ws)).take p.length=p:=zF (by rw[length_take,eV];omega) λc hc=>by rw[qo hc,t6 ho hl hc];exact h1 c hc
  rw[decide_eq_true e];rcases h2 with h2|⟨h2,h3⟩
  ·rw[decide_eq_true h2];rfl
  ·rw[decide_eq_true h2];rcases h3 with h3|h3
   ·rw[h3,Bool.not_false,Bool.true_or];simp
   ·rw[hst h3,Bool.or_true];simp
 ·have e:(gP p.length (os.zip ws)).take p.length=List.replicate p.length 0:=zF (by rw[length_take,eV,length_replicate];omega) λc hc=>by
   rw[length_replicate]at hc;rw[qo hc,t6 ho hl hc,FM.oO];exact h1 c hc
  rw[decide_eq_true e];rcases h2 with h2|⟨h2,h3⟩
  ·rw[decide_eq_true h2];simp
  ·rw[decide_eq_true h2,hst h3];simp
abbrev UB (b:Nat) (ws:List Rat):Prop:=∃D:Int,D≠0/\D.natAbs<=2^(b+b)/\∀w∈ws,rB D (b+b+1) w
theorem Ap(iC:way=1\/way=-1)(hR:gY m b rows){t:FM.fG}(h:FM.endOf n rows way=some t):∃D:Int,D≠0/\D.natAbs<2^b/\∀w∈t.2.2,rB D b w:=by
 obtain⟨⟨r,hr,hc,k1,k2,k3⟩,_⟩:=(FM.jD rows n (List.replicate (n+1) 0) way).some t h;have pv:way*FM.ent r n≠0:=by rcases hc with hc|⟨hc,_⟩<;>omega
 refine⟨way*FM.ent r n,pv,uf iC (d6 (hR.bd r hr)),λw hw=>?_⟩;rw[k3]at hw;unfold FM.nh at hw;obtain⟨z,hz,rfl⟩:=mem_map.mp hw;exact⟨z,hR.bd r hr z (List.mem_of_mem_drop hz),rfl⟩
theorem Ja(hR:gY m b rows)(h:FM.never n rows=some ws):UB b ws:=by
 unfold FM.never at h;cases hr:FM.fA n rows with
 |some w=>
  rw[hr]at h;cases h;unfold FM.fA at hr;rw[Option.map_eq_some_iff]at hr;obtain⟨r,hf,e⟩:=hr;have hm:=mem_of_find?_eq_some hf;refine⟨1,by decide,pow_pos (by decide),λw hw=>?_⟩;rw[<- e]at hw;obtain⟨z,hz,rfl⟩:=mem_map.mp hw;refine⟨(if r.1=.eq/\0<FM.ent r (n+1)then -1 else 1)*z,dW (uf ?_ (hR.bd r hm z (List.mem_of_mem_drop hz))) (by omega),?_⟩
  ·split
   ·exact .inr rfl
   ·exact .inl rfl
  ·have:((1:Int):Rat)=1:=rfl;rw[this];grind
 |none=>
  rw[hr]at h;have h:FM.fI n rows=some ws:=h;unfold FM.fI at h;cases h1:FM.endOf n rows 1 with
  |none=>rw[h1]at h;cases h
  |some t=>
   cases h2:FM.endOf n rows (-1)with
   |none=>rw[h1,h2]at h;cases h
   |some o=>
    rw[h1,h2]at h;dsimp only at h;generalize (if t.1=true\/o.1=true then FM.Kn.lt else FM.Kn.le)=kn at h;split at h
    ·cases h;obtain⟨D1,d1,e1,w1⟩:=Ap (.inl rfl) hR h1;obtain⟨D2,d2,e2,w2⟩:=Ap (.inr rfl) hR h2;refine⟨D1*D2,mul_ne_zero d1 d2,Nat.le_of_lt (cT e1 e2),λw hw=>?_⟩;obtain⟨x,hx,y,hy,rfl⟩:=jv hw;obtain⟨X,hX,rfl⟩:=w1 x hx;obtain⟨Y,hY,rfl⟩:=w2 y hy;refine⟨X*D2+Y*D1,rz (cT hX e2) (cT hY e1),?_⟩;have f1:((D1:Int):Rat)≠0:=λz=>d1 (FM.bP.mp z);have f2:((D2:Int):Rat)≠0:=λz=>d2 (FM.bP.mp z);rw[Rat.intCast_add,intCast_mul,intCast_mul,intCast_mul];grind
    ·cases h
def FV (bs:Nat->Nat):Nat->Nat->Nat
 |0,_=>0
 |m+1,C=>max (bs m+C+(bs m+C)+3) (FV bs m (C+(bs m+C+(bs m+C)+3)+1))
theorem yV(bs:Nat->Nat):∀(m:Nat) {C D:Nat},C<=D->FV bs m C<=FV bs m D
 |0,_,_,_=>le_refl _
 |m+1,C,D,h=>by
  have:=yV bs m (C:=C+(bs m+C+(bs m+C)+3)+1) (D:=D+(bs m+D+(bs m+D)+3)+1) (by omega);show max _ _<=max _ _;omega
theorem KJ{bs:Nat->Nat}{n M:Nat}{Ls:List (List FM.Row)}(hst:∀i,i<n->1<=bs i/\∃rs,Ls[i]?=some rs/\gY M (bs i) rs):∀(m C:Nat) (x:List Rat),m<=n->x.length=n+1->(∀c,c<m->x.getD c 0=0)->gN x C->∀c,c<m->SR (FV bs m C) ((FM.ee Ls m x).getD c 0)
 |0,C,x,_,_,_,hC=>λc hc=>by omega
 |m+1,C,x,hm,uW,jh,hC=>by
  obtain⟨b1,rs,Cv,fX⟩:=hst m (by omega);have eD:Ls.getD m []=rs:=by rw[getD_eq_getElem?_getD,Cv];rfl
  have v1:∀y,FM.gk (FM.cm (Ls.getD m []) m x (-1))=some y->SR (bs m+C) y:=λy hy=>by
   rw[eD]at hy;cases ho:FM.cm rs m x (-1)with
   |none=>rw[ho]at hy;cases hy
   |some o=>
    rw[ho]at hy;cases hy;exact gx (oS (.inr rfl) fX hC ho)
  have v2:∀y,FM.gI (FM.cm (Ls.getD m []) m x 1)=some y->SR (bs m+C) y:=λy hy=>by
   rw[eD]at hy;cases ho:FM.cm rs m x 1 with
   |none=>rw[ho]at hy;cases hy
   |some o=>
    rw[ho]at hy;cases hy;exact oS (.inl rfl) fX hC ho
  have sv:=rq (by omega) v1 v2;obtain⟨C',Ac,Ab⟩:=hC.set sv (m:=m) (by omega) (jh m (by omega));intro c hc;have ih:=KJ hst m C' _ (by omega) (by rw[length_set];exact uW) (λc hc=>by
   rw[FM.jL (by omega),if_neg (by omega)];exact jh c (by omega)) Ab
  show SR (max _ _) ((FM.ee Ls m (x.set m _)).getD c 0);by_cases e:c=m
  ·subst e;rw[FM.Cb Ls c _ c (le_refl _),FM.jL (by omega),if_pos rfl];exact sv.up (Nat.le_max_left _ _)
  ·exact(ih c (by omega)).up (le_trans (yV bs m Ac) (Nat.le_max_right _ _))
theorem KS(q:Rat):qD (0-q)=.tuple [.int (-q.num),.int (q.den:Int)]:=by
 have e:(0:Rat)-q=-q:=by grind
 rw[e];show Dat.tuple [.int (-q).num,.int ((-q).den:Int)]=_;rw[Rat.neg_num,Rat.neg_den]
theorem HD(T:TX P K mg)(U:FnAt K mg "_law_turned" (top 56) ["parts","bound"]):
  ∃F,Dn P w K mg base 41 "_law_turned" ["parts","bound"] 2 F/\∀(p:List Rat) (β:Rat),p.length<=100->F [aR p,qD β]=some (.tuple [aR (p.map λq=>0-q),qD (0-β)]):=by
 refine⟨_,cO ["parts","bound"] U λnd _ _ _ _ _ _ _ hr=>
  (ag (ax (aX (k:=0) (a6 (gV T.tuple (a6 (cE (gn rfl (j4 (N':=["part"])) (a5 0) (λ_ _ _ _=>(aq 0 (show(["part"]:List Str).Nodup by decide +kernel))) (λ_ _ _ _=>d9) (λ_ _ _ _=>(aX (k:=0) (a6 (dw (aj (a5 0) a8)) (a6 (aj (a5 0) a8) a9 (hs:=aM)) (hs:=gQ)))) (cV rfl))) a9)) (a6 (aX (k:=0) (a6 (dw (aj (a5 1) a8)) (a6 (aj (a5 1) a8) a9 (hs:=aM)) (hs:=gQ))) a9 (hs:=cJ)) (hs:=aZ))))),?_⟩
 intro p β Ej;have z2:2<=sizeLine:=sz (by decide);have zl:p.length<sizeLine:=lt_of_lt_of_le (show p.length<1000 by omega) (sz (by decide));have ec:bV (aName 0) fk (kx (bh (L3.f1 o6 (L3.f2 bA (aN 0) (fC (.int 0)))) (bh (L3.f2 bA (aN 0) (fC (.int 1))) cG))) [none] (p.map qD)=some ((p.map λq=>0-q).map qD):=by
  refine de _ _ (by rw[length_map,length_map,length_map]) λi d o h1 h2=>?_;rw[getElem?_map]at h1 h2;rw[getElem?_map]at h2;cases hp:p[i]? with
  |none=>rw[hp]at h1;cases h1
  |some x=>
   rw[hp]at h1 h2;cases h1;cases h2;refine⟨[(0,qD x)],rfl,?_⟩;have e:=KS x;dsimp![xo,Oz,z2,e]
 have e:=KS β;dsimp![fB,length_map,zl,ec,xo,Oz,z2,gO,e]
def DB (l:List (Rat×Rat)) (a:Rat):Rat:=l.foldl (λa q=>a+q.1*q.2) a
theorem nk:∀(p x:List Rat) (a:Rat),x.length=p.length->DB (p.zip x) a=a+FM.aB p x
 |[],x,a,_=>by show a=a+0;grind
 |p::ps,[],a,h=>by cases h
 |p::ps,x::xs,a,h=>by
  show DB (ps.zip xs) (a+p*x)=_;rw[nk ps xs _ (Nat.succ.inj h)];unfold FM.aB;rw[length_cons,FM.td];have e1:FM.sm ps.length (λi=>(p::ps).getD (i+1) 0*(x::xs).getD (i+1) 0)=FM.sm ps.length (λc=>ps.getD c 0*xs.getD c 0):=FM.aQ λi _=>by rw[Ek,Ek]
  have e0:(p::ps).getD 0 0*(x::xs).getD 0 0=p*x:=rfl;rw[e1,e0];grind
abbrev LN (c s n:Nat):Nat:=1+n*(c+s+1)
theorem yC{c s:Nat}:∀(l:List (Rat×Rat)) (n:Nat) (a:Rat),(∀q∈l,SR c q.1/\SR s q.2)->SR n a->SR (n+l.length*(c+s+1)) (DB l a)
 |[],n,a,_,h=>by show SR (n+0*_) a;exact h.up (by omega)
 |q::l,n,a,hq,h=>by
  show SR _ (DB l (a+q.1*q.2));have:=yC l (n+(c+s)+1) (a+q.1*q.2) (λy hy=>hq y (mem_cons_of_mem _ hy)) (h.add ((hq q mem_cons_self).1.mul (hq q mem_cons_self).2));rw[length_cons,succ_mul];exact this.up (by omega)
abbrev OE (p:Rat×Rat):Dat:=.tuple [qD p.1,qD p.2]
theorem ET:∀(xs ys:List Rat),dF (xs.map qD) (ys.map qD)=(xs.zip ys).map OE
 |[],ys=>by simp[dF]
 |x::xs,[]=>by simp[dF]
 |x::xs,y::ys=>by simp only[map_cons,dF,zip_cons_cons,ET xs ys]
structure AU (c s:Nat) (p x:List Rat):Prop where
 len:x.length=p.length
 sp:∀q∈p,SR c q
 sx:∀q∈x,SR s q
 sz:LN c s p.length<=3900000
 cs:c+s<=3900000
abbrev LM (F:List Dat->Option Dat):Prop:=∀(c s:Nat) (p x:List Rat),AU c s p x->F [aR p,aR x]=some (qD (FM.aB p x))
variable {x:List Rat}
theorem RX{s:Nat}(h:AU c s p x):SR 3900000 (FM.aB p x):=by
 have h1:=yC (c:=c) (s:=s) (p.zip x) 1 0 (λq hq=>⟨h.sp q.1 (of_mem_zip hq).1,h.sx q.2 (of_mem_zip hq).2⟩) (kf (by decide));have e:=nk p x 0 h.len;rw[e,length_zip,h.len,min_self]at h1;rw[show(0:Rat)+FM.aB p x=FM.aB p x by grind]at h1;exact h1.up h.sz
theorem Qz(T:TX P K mg)(kX:Dn P w K mg base 42 "_law_plus" ["a","b"] 2 j6)(u0:Dn P w K mg base 42 "_law_times" ["a","b"] 2 ka)(U:FnAt K mg "_law_sum" (top 59) ["parts","point"]):
  ∃F,Dn P w K mg base 43 "_law_sum" ["parts","point"] 2 F/\LM F:=by
 refine⟨_,cO ["parts","point","found","part","number"] U λnd _ _ _ _ _ _ _ hr=>
  (ae (aC 2 nd (aX (k:=0) (a6 a8 (a6 a8 a9))))
  (ae (jT PassesOwn.never rfl (mI T.zip (a6 (a5 0) (a6 (a5 1) a9))) (c8 (n:=2) rfl (aI (aq 3 nd) (aI (aq 4 nd) bQ)))
  (ag (aC 2 nd (ay kX hr (a6 (a5 2) (a6 (ay u0 hr (a6 (a5 3) (a6 (a5 4) a9))) a9 (hs:=aZ)))))))
  (ag (ax (a5 2))))),?_⟩
 intro c s p x hI;have z2:2<=sizeLine:=sz (by decide);have hsz:=hI.sz;have Li:=hI.cs;refine bX ?_;simp!;rw[aA (af:=[~~~(aR p),~~~(aR x),~~~(qD 0),none,none]) (by rw[q0];simp![z2])];refine gm (I:=_) (ly (l:=p.zip x) (s:=(0:Rat)) OE (fun(a:Rat) Γ=>∃x3 x4,Γ=[~~~(aR p),~~~(aR x),~~~(qD a),x3,x4])
   (fun(a:Rat) l=>∃n,SR n a/\n+l.length*(c+s+1)<=3900000/\∀q∈l,SR c q.1/\SR s q.2) (λa q=>a+q.1*q.2) (by rw[<- ET];rfl) ⟨1,kf (by decide),by rw[length_zip,hI.len,min_self];exact hsz,λq hq=>⟨hI.sp q.1 (of_mem_zip hq).1,hI.sx q.2 (of_mem_zip hq).2⟩⟩ ⟨none,none,rfl⟩ ?_) ?_
 ·rintro a ⟨y,z⟩ l Γ ⟨n,hn,GP,iJ⟩ ⟨x3,x4,rfl⟩;rw[length_cons,succ_mul]at GP;obtain⟨hy,hz⟩:=iJ (y,z) mem_cons_self;dsimp only at hy hz;refine⟨[(3,qD y),(4,qD z)],rfl,?_⟩;dsimp!;have e1:=wJ hy hz (by omega) (by omega);have e2:=lG hn (hy.mul hz) (by omega) (by omega);exact⟨[~~~(aR p),~~~(aR x),~~~(qD (a+y*z)),~~~(qD y),~~~(qD z)],by dsimp![e1,e2],⟨_,_,rfl⟩,n+(c+s)+1,hn.add (hy.mul hz),by omega,λq hq=>iJ q (mem_cons_of_mem _ hq)⟩
 ·rintro af ⟨x3,x4,rfl⟩;have e:=nk p x 0 hI.len;rw[show(0:Rat)+FM.aB p x=FM.aB p x by grind]at e;have e:(p.zip x).foldl (λa q=>a+q.1*q.2) 0=FM.aB p x:=e;rw[e];simp![]
def Lk (o:FM.Ol) (x:List Rat):Bool:=match o.1 with
 | .eq=>decide (FM.aB o.2.1 x=o.2.2)
 | .lt=>decide (FM.aB o.2.1 x<o.2.2)
 | .le=>decide (FM.aB o.2.1 x<o.2.2) || decide (FM.aB o.2.1 x=o.2.2)
theorem CA(o:FM.Ol)(x:List Rat):Lk o x=true↔FM.bE o x:=by
 unfold Lk FM.bE;cases h:o.1 with
 |eq=>show decide _=true↔_=_;rw[decide_eq_true_eq]
 |lt=>show decide _=true↔_<_;rw[decide_eq_true_eq]
 |le=>
  show(decide _ || decide _)=true↔_<=_;rw[or_eq_true,decide_eq_true_eq,decide_eq_true_eq];constructor
  ·rintro(z|z)<;>grind
  ·intro z;by_cases c:FM.aB o.2.1 x=o.2.2
   ·exact .inr c
   ·left;grind
abbrev Rt (F:List Dat->Option Dat):Prop:=∀(c s:Nat) (o:FM.Ol) (x:List Rat),AU c s o.2.1 x->SR 3900000 o.2.2->F [ao o,aR x]=some (.bool (Lk o x))
theorem JP(T:TX P K mg)(oM:Dn P w K mg base 43 "_law_sum" ["parts","point"] 2 Fs)(hS:LM Fs)(ub:Dn P w K mg base 43 "_law_below" ["a","b"] 2 fQ)(U:FnAt K mg "_law_holds" (top 60) ["line","point"]):
  ∃F,Dn P w K mg base 44 "_law_holds" ["line","point"] 2 F/\Rt F:=by
 refine⟨_,cO ["line","point","found"] U λnd _ _ _ _ _ _ _ hr=>
  (ae (aC 2 nd (ay oM hr (a6 (aj (a5 0) a8) (a6 (a5 1) a9) (hs:=aM))))
  (ae (bc (cy hr (aj (a5 0) a8) aT) (ag (ax (iT hr (a5 2) (aj (a5 0) a8)))) aV)
  (ag (ax (qz (ay ub hr (a6 (a5 2) (a6 (aj (a5 0) a8) a9 (hs:=aM)))) (fP (ja (iT hr (aj (a5 0) a8) aT) (fP (iT hr (a5 2) (aj (a5 0) a8)))))))))),?_⟩
 intro c s o x hI hb;have e1:=hS c s o.2.1 x hI;have o0:bA (ao o) (.int 0)=some (.str (bw o.1)):=rfl;have o1:bA (ao o) (.int 1)=some (aR o.2.1):=rfl;have o2:bA (ao o) (.int 2)=some (qD o.2.2):=rfl;have e2:=pJ (FM.aB o.2.1 x) o.2.2;have e3:=mz (RX hI) hb (by decide) (by decide);have eH:Lk o x=(match o.1 with
  | .eq=>decide (FM.aB o.2.1 x=o.2.2)
  | .lt=>decide (FM.aB o.2.1 x<o.2.2)
  | .le=>decide (FM.aB o.2.1 x<o.2.2) || decide (FM.aB o.2.1 x=o.2.2)):=rfl
 rw[eH];generalize FM.aB o.2.1 x=v at *;generalize ao o=dl at *;cases hk:o.1 with
 |eq=>
  have k1:cM (.str (bw .eq)) (.str "=")=some (.bool true):=rfl;rw[hk]at o0;dsimp![o0,o1,o2,e1,e2,k1]
 |lt=>
  have k1:cM (.str (bw .lt)) (.str "=")=some (.bool false):=rfl;have k2:cM (.str (bw .lt)) (.str "<=")=some (.bool false):=rfl;rw[hk]at o0;by_cases c1:v<o.2.2
  ·rw[decide_eq_true c1]at e3 ⊢;dsimp![o0,o1,o2,e1,e2,e3,k1,k2]
  ·rw[decide_eq_false c1]at e3 ⊢;dsimp![o0,o1,o2,e1,e2,e3,k1,k2]
 |le=>
  have k1:cM (.str (bw .le)) (.str "=")=some (.bool false):=rfl;have k2:cM (.str (bw .le)) (.str "<=")=some (.bool true):=rfl;rw[hk]at o0;by_cases c1:v<o.2.2
  ·rw[decide_eq_true c1]at e3 ⊢;dsimp![o0,o1,o2,e1,e2,e3,k1,k2,Bool.true_or]
  ·rw[decide_eq_false c1]at e3 ⊢;dsimp![o0,o1,o2,e1,e2,e3,k1,k2,Bool.false_or]
theorem MQ(q:Rat):mk q.num (q.den:Int)=qD q:=by
 obtain⟨e1,e2⟩:=Fr.jt q.num (q.den:Int) (sS q);rw[<- FK q]at e1 e2;show Dat.tuple [.int (Fr.num _ _),.int (Fr.den _ _)]=_;rw[e1,e2]
abbrev UW (F:List Dat->Option Dat):Prop:=∀q:Rat,SR 8000000 q->F [qD q]=some (.bool true)
theorem QB(T:TX P K mg)(iy:Dn P w K mg base 41 "_law_make" ["n","d"] 2 iw)(U:FnAt K mg "_law_is_fraction" (top 50) ["found"]):
  ∃F,Dn P w K mg base 42 "_law_is_fraction" ["found"] 1 F/\UW F:=by
 refine⟨_,cO ["found","part"] U λnd _ _ _ _ _ _ _ hr=>
  (ae (bc (cD (cW (dJ (bJ (fD "tuple" T.isinstance T.tuple (a5 0)))) (d7 (dg hr (cX T.len (a6 (a5 0) a9)) a8)))) (ag (ax cZ)) aV)
  (ae (dI PassesOwn.never rfl (a5 0) (aq 1 nd)
  (ag (bc (cD (cW (dJ (bJ (fD "int" T.isinstance T.int (a5 1)))) (d7 (bJ (fD "bool" T.isinstance T.bool (a5 1)))))) (ag (ax cZ)) aV)))
  (ag (ax (ja (FT (aj (a5 0) a8) a8) (fP (iT hr (ay iy hr (a6 (aj (a5 0) a8) (a6 (aj (a5 0) a8) a9 (hs:=aM)) (hs:=aM))) (a5 0)))))))),?_⟩
 intro q hq;have e1:iw [.int q.num,.int (q.den:Int)]=some (qD q):=by rw[kT (by have:=q.den_pos;omega) hq.dn,MQ]
 have e2:=pJ q q;rw[decide_eq_true rfl]at e2;have i1:oE "tuple" (qD q)=some (.bool true):=rfl;have i2:∀z:Int,oE "int" (.int z)=some (.bool true):=λ_=>rfl;have i3:∀z:Int,oE "bool" (.int z)=some (.bool false):=λ_=>rfl;have l1:kU [qD q]=some (.int 2):=rfl;have n1:gK (.int 2) (.int 2)=some (.bool false):=by rw[fm];rfl
 have gp:(0:Int)<(q.den:Int):=by have:=q.den_pos;omega
 have hi:cI (qD q)=some [.int q.num,.int (q.den:Int)]:=rfl;refine bX ?_;simp!;rw[aA (af:=[~~~(qD q),none]) (by dsimp![i1,l1,n1])];rw[aA (af:=[~~~(qD q),~~~.int (q.den:Int)]) (by
  rw[kh (d:=qD q) (by dsimp![]) hi];rw[kW (as:=[(1,.int q.num)]) (af:=[~~~(qD q),~~~.int q.num]) rfl (by dsimp![i2,i3])];rw[kW (as:=[(1,.int (q.den:Int))]) (af:=[~~~(qD q),~~~.int (q.den:Int)]) rfl (by dsimp![i2,i3])];rfl)]
 dsimp![xo,Oz,gS,eq_true gp,e1,e2]
abbrev RF (F:List Dat->Option Dat):Prop:=∀(dl:Dat) (ws:List Rat),kU [dl]=some (.int (ws.length:Int))->cI dl=some (ws.map qD)->(∀w∈ws,SR 8000000 w)->F [dl,.int (ws.length:Int)]=some (.bool true)
theorem QK(T:TX P K mg)(wQ:Dn P w K mg base 42 "_law_is_fraction" ["found"] 1 Fi)(hI:UW Fi)(U:FnAt K mg "_law_are_fractions" (top 51) ["found","many"]):
  ∃F,Dn P w K mg base 43 "_law_are_fractions" ["found","many"] 2 F/\RF F:=by
 refine⟨_,cO ["found","many","one"] U λnd _ _ _ _ _ _ _ hr=>
  (ae (bc (dg hr (cX T.len (a6 (a5 0) a9)) (a5 1)) (ag (ax cZ)) aV)
  (ae (dI PassesOwn.never rfl (a5 0) (aq 2 nd)
  (ag (bc (dJ (bJ (ay wQ hr (a6 (a5 2) a9)))) (ag (ax cZ)) aV)))
  (ag (ax cZ)))),?_⟩
 intro dl ws h1 h2 X3;have n1:=fm (ws.length:Int) (ws.length:Int);rw[decide_eq_true rfl]at n1;refine bX ?_;simp!;rw[aA (af:=[~~~(dl),~~~.int (ws.length:Int),none]) (by dsimp![h1,n1])];refine gm (I:=_) (gX (l:=ws) (s:=()) qD (λ_ Γ=>∃u,Γ=[~~~(dl),~~~.int (ws.length:Int),u]) (λ_ l=>∀w∈l,SR 8000000 w) (λ_ _=>()) (d:=dl) rfl h2 X3 ⟨none,rfl⟩ ?_) ?_
 ·rintro _ x l Γ hl ⟨u,rfl⟩;have e:=hI x (hl x mem_cons_self);refine⟨[(2,qD x)],rfl,?_⟩;dsimp!;exact⟨[~~~(dl),~~~.int (ws.length:Int),~~~(qD x)],by dsimp![e],⟨_,rfl⟩,λw hw=>hl w (mem_cons_of_mem _ hw)⟩
 ·rintro af ⟨u,rfl⟩;simp![]
abbrev bL (c e n:Nat):Nat:=FM.bt (c+e) n
abbrev xL (c e n:Nat):Nat:=FV (FM.bt (c+e)) n (bL c e n+bL c e n+3+1)
structure nP (c e:Nat) (p:List Rat) (os:List FM.Ol):Prop where
 ln:tZ c e p os
 pz:(bL c e p.length+bL c e p.length+1)+(bL c e p.length+bL c e p.length)+(c+1)*(os.length+1)<=3900000
 sz:LN c (xL c e p.length) p.length<=3900000
 cs:c+xL c e p.length<=3900000
theorem nP.neg(h:nP c e p os):nP c e (p.map λq=>0-q) os:=
 ⟨h.ln.neg,by rw[length_map];exact h.pz,by rw[length_map];exact h.sz,by rw[length_map];exact h.cs⟩
theorem tM(h:nP c e p os){s:Bool}(h1:(FM.b9 s p β os).1=true):FM.Right os (FM.b9 s p β os).2 s p β/\∃D,vv D (bL c e p.length+bL c e p.length+1) (bL c e p.length+bL c e p.length) c p.length os (FM.b9 s p β os).2:=by
 have hlen:∀o∈os,o.2.1.length=p.length:=λo ho=>(h.ln.ok o ho).len;have hr:FM.Right os (FM.b9 s p β os).2 s p β:=by
  rcases FM.sh hlen s β with⟨_,r⟩|⟨z,_⟩
  ·exact r
  ·rw[h1]at z;cases z
 refine⟨hr,?_⟩;obtain⟨rows,nG,fX⟩:=uq h.ln p.length (le_refl _);have uY:FM.aJ p os=rows:=by unfold FM.aJ;rw[getD_eq_getElem?_getD,nG];rfl
 have key:UB (bL c e p.length) (FM.b9 s p β os).2:=by
  unfold FM.b9 at h1 ⊢;rw[uY]at h1 ⊢;cases hn:FM.never p.length rows with
  |some w=>exact Ja fX hn
  |none=>
   rw[hn]at h1;dsimp only at h1 ⊢;cases he:FM.endOf p.length rows 1 with
   |none=>rw[he]at h1;cases h1
   |some t=>
    rw[he]at h1;dsimp only at h1 ⊢;by_cases hk:FM.gy s β t.1 t.2.1=true
    ·rw[if_pos hk];obtain⟨D,d0,d1,hw⟩:=Ap (.inl rfl) fX he;refine⟨D,d0,Nat.le_of_lt (dW d1 (le_add_right _ _)),λw zR=>?_⟩;obtain⟨W,h2,h3⟩:=hw w zR;exact⟨W,dW h2 (le_trans (le_add_right _ _) (le_add_right _ _)),h3⟩
    ·rw[if_neg hk]at h1;cases h1
 obtain⟨D,d0,d1,hw⟩:=key;exact⟨D,d0,d1,λo ho=>⟨(h.ln.ok o ho).len,(h.ln.ok o ho).sq,(h.ln.ok o ho).bd⟩,hw,h.pz,by have:=h.ln.sz.n5;omega⟩
theorem tN(h:nP c e p os){s:Bool}(dA:SR (bL c e p.length) β)(h1:(FM.b9 s p β os).1=false):FM.vC os s p β (FM.b9 s p β os).2/\∀q∈(FM.b9 s p β os).2,SR (xL c e p.length) q:=by
 have hlen:∀o∈os,o.2.1.length=p.length:=λo ho=>(h.ln.ok o ho).len;have hr:FM.vC os s p β (FM.b9 s p β os).2:=by
  rcases FM.sh hlen s β with⟨z,_⟩|⟨_,r⟩
  ·rw[h1]at z;cases z
  ·exact r
 refine⟨hr,?_⟩;obtain⟨rows,nG,fX⟩:=uq h.ln p.length (le_refl _);have uY:FM.aJ p os=rows:=by unfold FM.aJ;rw[getD_eq_getElem?_getD,nG];rfl
 have hb:(FM.b9 s p β os).2=FM.dP (FM.bG p os) p.length (FM.eO p.length rows β):=by
  unfold FM.b9 at h1 ⊢;unfold FM.beyond;rw[uY]at h1 ⊢;cases hn:FM.never p.length rows with
  |some w=>rw[hn]at h1;cases h1
  |none=>
   rw[hn]at h1;dsimp only at h1 ⊢;cases he:FM.endOf p.length rows 1 with
   |none=>rfl
   |some t=>
    rw[he]at h1;dsimp only at h1 ⊢;by_cases hk:FM.gy s β t.1 t.2.1=true
    ·rw[if_pos hk]at h1;cases h1
    ·rw[if_neg hk]
 rw[hb];have hst:∀i,i<p.length->1<=FM.bt (c+e) i/\∃rs,(FM.bG p os)[i]?=some rs/\gY (p.length+2+os.length) (FM.bt (c+e) i) rs:=λi hi=>
  ⟨le_trans (show 1<=c+e by have:=h.ln.sz.c1;omega) (FM.pL _ _),uq h.ln i (Nat.le_of_lt hi)⟩
 have Ll:1<=bL c e p.length:=le_trans (show 1<=c+e by have:=h.ln.sz.c1;omega) (FM.pL _ _);have st:SR (bL c e p.length+bL c e p.length+3) (FM.eO p.length rows β):=by
  have v2:∀y,FM.gI (FM.endOf p.length rows 1)=some y->SR (bL c e p.length) y:=λy hy=>by
   cases ho:FM.endOf p.length rows 1 with
   |none=>rw[ho]at hy;cases hy
   |some o=>
    rw[ho]at hy;cases hy;exact(mW (.inl rfl) fX ho).1
  unfold FM.eO;refine rq (by omega) (λx hx=>?_) v2;cases hx;cases ho:FM.endOf p.length rows (-1)with
  |none=>exact dA
  |some o=>
   show SR _ (if 0-o.2.1<β then β else 0-o.2.1);split
   ·exact dA
   ·exact gx (mW (.inr rfl) fX ho).1
 intro q hq;have pV:q∈(FM.ee (FM.bG p os) p.length (List.replicate p.length 0++[FM.eO p.length rows β])).take p.length:=hq;obtain⟨i,hi⟩:=List.getElem?_of_mem pV;have Ld:i<p.length:=by
  have:=(List.getElem?_eq_some_iff.mp hi).1;rw[length_take]at this;omega
 have:=KJ hst p.length (bL c e p.length+bL c e p.length+3+1) _ (le_refl _) (rV p.length (FM.eO p.length rows β)) (tx _ _) (vQ st) i Ld;rw[<- qo Ld,getD_eq_getElem?_getD,hi]at this;exact this
abbrev GD (k:FM.Kn):Bool:=decide (k=.lt)
theorem Sj{k:FM.Kn}(h:k≠.eq):bw k=f9 (GD k):=by cases k<;>first|rfl|exact absurd rfl h
structure UD (F:List Dat->Option Dat):Prop where
 one:∀(D:Int) (u d c:Nat) (o:FM.Ol) (os:List FM.Ol) (ws:List Rat),o.1≠.eq->vv D u d c o.2.1.length os ws->ws.length=os.length->SR 3900000 o.2.2->uD (GD o.1) o.2.1 o.2.2 (os.zip ws)=true->F [ao o,.list (os.map ao),.list (ws.map qD)]=some (.bool true)
 two:∀(D D2:Int) (u d c:Nat) (o:FM.Ol) (os:List FM.Ol) (ws vs:List Rat),o.1=.eq->vv D u d c o.2.1.length os ws->vv D2 u d c o.2.1.length os vs->ws.length=os.length->vs.length=os.length->SR 3900000 o.2.2->uD false o.2.1 o.2.2 (os.zip ws)=true->uD false (o.2.1.map λq=>0-q) (0-o.2.2) (os.zip vs)=true->F [ao o,.list (os.map ao),.tuple [.list (ws.map qD),.list (vs.map qD)]]=some (.bool true)
theorem DW(h:vv D u d c n os ws):∀w∈ws,SR 8000000 w:=λw hw=>(Kg h.D0 h.Dd (h.wt w hw)).up (by have:=h.sz;omega)
theorem Ni(T:TX P K mg){Fa Fr:List Dat->Option Dat}(ia:Dn P w K mg base 44 "_law_are_fractions" ["found","many"] 2 Fa)(hA:RF Fa)(ua:Dn P w K mg base 44 "_law_right" ["kind","parts","bound","others","weights"] 5 Fr)(hR:Uz Fr)(rK:Dn P w K mg base 44 "_law_turned" ["parts","bound"] 2 Ft)(hT:∀(p:List Rat) (β:Rat),p.length<=100->Ft [aR p,qD β]=some (.tuple [aR (p.map λq=>0-q),qD (0-β)]))(U:FnAt K mg "_law_paper_shows" (top 57) ["line","others","paper"]):
  ∃F,Dn P w K mg base 45 "_law_paper_shows" ["line","others","paper"] 3 F/\UD F:=by
 refine⟨_,cO ["line","others","paper","kind","parts","bound","one","less","more"] U λnd _ _ _ _ _ _ _ hr=>
  (ae (mH (a5 0) (c8 (n:=3) rfl (aI (aq 3 nd) (aI (aq 4 nd) (aI (aq 5 nd) bQ)))))
  (ae (bc (dg hr (a5 3) aT) (ag (ax (ja (fD "list" T.isinstance T.list (a5 2)) (ja (ay ia hr (a6 (a5 2) (a6 (cX T.len (a6 (a5 1) a9)) a9 (hs:=aZ)))) (fP (ay ua hr (a6 (a5 3) (a6 (a5 4) (a6 (a5 5) (a6 (a5 1) (a6 (a5 2) a9))))))))))) aV)
  (ae (bc (cD (cW (dJ (bJ (fD "tuple" T.isinstance T.tuple (a5 2)))) (d7 (dg hr (cX T.len (a6 (a5 2) a9)) a8)))) (ag (ax cZ)) aV)
  (ae (dI PassesOwn.never rfl (a5 2) (aq 6 nd)
  (ag (bc (cD (cW (dJ (bJ (fD "list" T.isinstance T.list (a5 6)))) (d7 (dJ (bJ (ay ia hr (a6 (a5 6) (a6 (cX T.len (a6 (a5 1) a9)) a9 (hs:=aZ))))))))) (ag (ax cZ)) aV)))
  (ae (mH (ay rK hr (a6 (a5 4) (a6 (a5 5) a9))) (c8 (n:=2) rfl (aI (aq 7 nd) (aI (aq 8 nd) bQ))))
  (ag (ax (ja (ay ua hr (a6 aT (a6 (a5 4) (a6 (a5 5) (a6 (a5 1) (a6 (aj (a5 2) a8) a9 (hs:=aM))))))) (fP (ay ua hr (a6 aT (a6 (a5 7) (a6 (a5 8) (a6 (a5 1) (a6 (aj (a5 2) a8) a9 (hs:=aM)))))))))))))))),?_⟩
 have il:∀xs:List Dat,oE "list" (.list xs)=some (.bool true):=λ_=>rfl;refine⟨?_,?_⟩
 ·intro D u d c o os ws hk hI hl hb hr;have e1:=hA (.list (ws.map qD)) ws (jc qD ws) rfl (DW hI);rw[hl]at e1;have e2:=hR D u d c (GD o.1) o.2.1 o.2.2 os ws hI hb;rw[hr,<- Sj hk]at e2;have lo:=jc ao os;have k1:¬bw o.1="=":=λz=>hk ((i6 o.1).mp z);refine bX ?_;simp!;rw[aA (af:=[~~~(ao o),~~~.list (os.map ao),~~~.list (ws.map qD),~~~.str (bw o.1),~~~(aR o.2.1),~~~(qD o.2.2),none,none,none]) (by simp![])];dsimp![jJ,eq_false k1,il,lo,e1,e2]
 ·intro D D2 u d c o os ws vs hk hI CG hl sQ hb hr lR;have e1:=hA (.list (ws.map qD)) ws (jc qD ws) rfl (DW hI);have De:=hA (.list (vs.map qD)) vs (jc qD vs) rfl (DW CG);rw[hl]at e1;rw[sQ]at De;have e2:=hR D u d c false o.2.1 o.2.2 os ws hI hb;have e2:Fr [.str "<=",aR o.2.1,qD o.2.2,.list (os.map ao),.list (ws.map qD)]=some (.bool true):=by rw[hr]at e2;exact e2
  have e3:=hR D2 u d c false (o.2.1.map λq=>0-q) (0-o.2.2) os vs (by rw[length_map];exact CG) (gx hb);have e3:Fr [.str "<=",aR (o.2.1.map λq=>0-q),qD (0-o.2.2),.list (os.map ao),.list (vs.map qD)]=some (.bool true):=by rw[lR]at e3;exact e3
  have e4:=hT o.2.1 o.2.2 hI.n1;have lo:=jc ao os;have k1:=(i6 o.1).mpr hk;have it:∀a b:Dat,oE "tuple" (.tuple [a,b])=some (.bool true):=λ_ _=>rfl;have l2:∀a b:Dat,kU [.tuple [a,b]]=some (.int 2):=λ_ _=>rfl;have n1:gK (.int 2) (.int 2)=some (.bool false):=by rw[fm];rfl
  have a0:∀a b:Dat,bA (.tuple [a,b]) (.int 0)=some a:=λ_ _=>rfl;have a1:∀a b:Dat,bA (.tuple [a,b]) (.int 1)=some b:=λ_ _=>rfl;generalize X5:Dat.list (ws.map qD)=d1 at *;generalize X4:Dat.list (vs.map qD)=d2 at *;have i1:oE "list" d1=some (.bool true):=by rw[<- X5];rfl
  have i2:oE "list" d2=some (.bool true):=by rw[<- X4];rfl
  have hi:cI (.tuple [d1,d2])=some [d1,d2]:=rfl;refine bX ?_;simp!;rw[aA (af:=[~~~(ao o),~~~.list (os.map ao),~~~.tuple [d1,d2],~~~.str (bw o.1),~~~(aR o.2.1),~~~(qD o.2.2),none,none,none]) (by simp![])];rw[aA (af:=[~~~(ao o),~~~.list (os.map ao),~~~.tuple [d1,d2],~~~.str (bw o.1),~~~(aR o.2.1),~~~(qD o.2.2),none,none,none]) (by dsimp![jJ,eq_true k1])];rw[aA (af:=[~~~(ao o),~~~.list (os.map ao),~~~.tuple [d1,d2],~~~.str (bw o.1),~~~(aR o.2.1),~~~(qD o.2.2),none,none,none]) (by dsimp![it,l2,n1])];rw[aA (af:=[~~~(ao o),~~~.list (os.map ao),~~~.tuple [d1,d2],~~~.str (bw o.1),~~~(aR o.2.1),~~~(qD o.2.2),~~~(d2),none,none]) (by
   rw[kh (d:=.tuple [d1,d2]) (by dsimp![]) hi];rw[kW (as:=[(6,d1)]) (af:=[~~~(ao o),~~~.list (os.map ao),~~~.tuple [d1,d2],~~~.str (bw o.1),~~~(aR o.2.1),~~~(qD o.2.2),~~~(d1),none,none]) rfl (by dsimp![i1,lo,e1])];rw[kW (as:=[(6,d2)]) (af:=[~~~(ao o),~~~.list (os.map ao),~~~.tuple [d1,d2],~~~.str (bw o.1),~~~(aR o.2.1),~~~(qD o.2.2),~~~(d2),none,none]) rfl (by dsimp![i2,lo,De])];rfl)]
  rw[aA (af:=[~~~(ao o),~~~.list (os.map ao),~~~.tuple [d1,d2],~~~.str (bw o.1),~~~(aR o.2.1),~~~(qD o.2.2),~~~(d2),~~~(aR (o.2.1.map λq=>0-q)),~~~(qD (0-o.2.2))]) (by dsimp![e4])];dsimp![a0,a1,e2,e3]
abbrev Rc (F:List Dat->Option Dat):Prop:=∀(c e:Nat) (o:FM.Ol) (os:List FM.Ol),nP c e o.2.1 os->SR (bL c e o.2.1.length) o.2.2->F [ao o,.list (os.map ao),Ai o.1 o.2.1 o.2.2 os]=some (.bool true)
theorem ni(p x:List Rat):FM.aB (p.map λq=>0-q) x=0-FM.aB p x:=by
 unfold FM.aB;rw[length_map];rw[FM.aQ (g:=λc=>(-1)*(p.getD c 0*x.getD c 0)) (λc hc=>?_),FM.bD]
 ·grind
 ·rw[getD_eq_getElem?_getD,getElem?_map,getD_eq_getElem?_getD (l:=p),getElem?_eq_getElem hc];show(0-p[c])*_=(-1)*(p[c]*_);grind
structure Rf (Fp Fh F:List Dat->Option Dat):Prop where
 Uj:∀(dl Hy pp:Dat),Fp [dl,Hy,pp]=some (.bool true)->F [dl,Hy,.tuple [.str "follows",pp]]=some (.bool true)
 brk:∀(o:FM.Ol) (os:List FM.Ol) (x:List Rat),x.length=o.2.1.length->(∀q∈x,SR 8000000 q)->(∀q∈os,Fh [ao q,aR x]=some (.bool true))->Fh [ao o,aR x]=some (.bool false)->F [ao o,.list (os.map ao),.tuple [.str "breaks",aR x]]=some (.bool true)
theorem Nh(T:TX P K mg){Fa:List Dat->Option Dat}(wN:Dn P w K mg base 45 "_law_paper_shows" ["line","others","paper"] 3 Fp)(ia:Dn P w K mg base 45 "_law_are_fractions" ["found","many"] 2 Fa)(hA:RF Fa)(B2:Dn P w K mg base 45 "_law_holds" ["line","point"] 2 Fh)(U:FnAt K mg "_law_told" (top 58) ["line","others","found"]):
  ∃F,Dn P w K mg base 46 "_law_told" ["line","others","found"] 3 F/\Rf Fp Fh F:=by
 refine⟨_,cO ["line","others","found","other"] U λnd _ _ _ _ _ _ _ hr=>
  (ae (bc (cD (cW (dJ (bJ (fD "tuple" T.isinstance T.tuple (a5 2)))) (cW (dg hr (cX T.len (a6 (a5 2) a9)) a8) (d7 (dJ (bJ (fD "str" T.isinstance T.str (aj (a5 2) a8)))))))) (ag (ax cZ)) aV)
  (ae (bc (cy hr (aj (a5 2) a8) aT) (ag (ax (ay wN hr (a6 (a5 0) (a6 (a5 1) (a6 (aj (a5 2) a8) a9 (hs:=aM))))))) aV)
  (ae (bc (cD (cW (dg hr (aj (a5 2) a8) aT) (cW (dJ (bJ (fD "tuple" T.isinstance T.tuple (aj (a5 2) a8)))) (d7 (dJ (bJ (ay ia hr (a6 (aj (a5 2) a8) (a6 (cX T.len (a6 (aj (a5 0) a8) a9 (hs:=aM))) a9 (hs:=aZ)) (hs:=aM))))))))) (ag (ax cZ)) aV)
  (ae (dI PassesOwn.never rfl (a5 1) (aq 3 nd)
  (ag (bc (dJ (bJ (ay B2 hr (a6 (a5 3) (a6 (aj (a5 2) a8) a9 (hs:=aM)))))) (ag (ax cZ)) aV)))
  (ag (ax (Mn (ay B2 hr (a6 (a5 0) (a6 (aj (a5 2) a8) a9 (hs:=aM))))))))))),?_⟩
 have i1:∀a b:Dat,oE "tuple" (.tuple [a,b])=some (.bool true):=λ_ _=>rfl;have i2:∀s:Str,oE "str" (.str s)=some (.bool true):=λ_=>rfl;have l2:∀a b:Dat,kU [.tuple [a,b]]=some (.int 2):=λ_ _=>rfl;have n1:gK (.int 2) (.int 2)=some (.bool false):=by rw[fm];rfl
 have a0:∀a b:Dat,bA (.tuple [a,b]) (.int 0)=some a:=λ_ _=>rfl;have a1:∀a b:Dat,bA (.tuple [a,b]) (.int 1)=some b:=λ_ _=>rfl;have kF:cM (.str "follows") (.str "follows")=some (.bool true):=rfl;have kB:cM (.str "breaks") (.str "follows")=some (.bool false):=rfl;have WY:gK (.str "breaks") (.str "breaks")=some (.bool false):=rfl;refine⟨?_,?_⟩
 ·intro dl Hy pp h;dsimp![i1,i2,l2,n1,a0,a1,kF,h]
 ·intro o os x hx hs ho hn;have e1:=hA (aR x) x (by show some (Dat.int ((x.map qD).length:Nat))=_;rw[length_map]) rfl hs;rw[hx]at e1;have o1:bA (ao o) (.int 1)=some (aR o.2.1):=rfl;have lp:kU [aR o.2.1]=some (.int o.2.1.length):=by show some (Dat.int ((o.2.1.map qD).length:Nat))=_;rw[length_map]
  have i3:oE "tuple" (aR x)=some (.bool true):=rfl;have hd:∀dx:Dat,dx=aR x->True:=λ_ _=>trivial;generalize aR x=dx at *;refine bX ?_;simp!;rw[aA (af:=[~~~(ao o),~~~.list (os.map ao),~~~.tuple [.str "breaks",dx],none]) (by dsimp![i1,i2,l2,n1,a0])];rw[aA (af:=[~~~(ao o),~~~.list (os.map ao),~~~.tuple [.str "breaks",dx],none]) (by dsimp![a0,kB])];rw[aA (af:=[~~~(ao o),~~~.list (os.map ao),~~~.tuple [.str "breaks",dx],none]) (by dsimp![a0,a1,WY,i3,o1,lp,e1])];refine gm (I:=_) (gX (l:=os) (s:=()) ao (λ_ Γ=>∃u,Γ=[~~~(ao o),~~~.list (os.map ao),~~~.tuple [.str "breaks",dx],u]) (λ_ l=>∀q∈l,q∈os) (λ_ _=>()) (d:=.list (os.map ao)) rfl rfl (λ_ h=>h) ⟨none,rfl⟩ ?_) ?_
  ·rintro _ q l Γ hl ⟨u,rfl⟩;have e:=ho q (hl q mem_cons_self);refine⟨[(3,ao q)],rfl,?_⟩;dsimp!;exact⟨[~~~(ao o),~~~.list (os.map ao),~~~.tuple [.str "breaks",dx],~~~(ao q)],by dsimp![a1,e],⟨_,rfl⟩,λw hw=>hl w (mem_cons_of_mem _ hw)⟩
  ·rintro af ⟨u,rfl⟩;dsimp![a1,hn]
theorem AI(hB:nP c e o.2.1 os)(dA:SR (bL c e o.2.1.length) o.2.2){F:List Dat->Option Dat}(hH:Rt Fh)(hT:Rf Fp Fh F)(uW:x.length=o.2.1.length)(hx:∀q∈x,SR (xL c e o.2.1.length) q)(fW:∀q∈os,FM.bE q x)(hn:¬FM.bE o x):
  F [ao o,.list (os.map ao),.tuple [.str "breaks",aR x]]=some (.bool true):=by
 have pY:=hB.ln.sz.bt;have Li:=hB.cs;refine hT.brk o os x uW (λq hq=>(hx q hq).up (by omega)) (λq hq=>?_) ?_
 ·have pV:=hB.ln.ok q hq;have:=hH c (xL c e o.2.1.length) q x ⟨by rw[uW,pV.len],pV.sq,hx,by rw[pV.len];exact hB.sz,hB.cs⟩ (pV.bd.up (by omega));rw[(CA q x).mpr (fW q hq)]at this;exact this
 ·have:=hH c (xL c e o.2.1.length) o x ⟨uW,hB.ln.sp,hx,hB.sz,hB.cs⟩ (dA.up (le_trans pY (by decide)));rw[eq_false_iff.mpr (λz=>hn ((CA o x).mp z))]at this;exact this
theorem M4{F:List Dat->Option Dat}(hP:UD Fp)(hH:Rt Fh)(hT:Rf Fp Fh F):Rc F:=by
 rintro c e ⟨k,p,β⟩ os hB dA;dsimp only at hB dA ⊢;have hlen:∀q∈os,q.2.1.length=p.length:=λq hq=>(hB.ln.ok q hq).len;have pY:=hB.ln.sz.bt;have Pr:SR 3900000 β:=dA.up (le_trans pY (by decide));have one:∀(s:Bool),k=(if s=true then .lt else .le)->F [ao (k,p,β),.list (os.map ao),jX (FM.b9 s p β os)]=some (.bool true):=λs hk=>by
  have xD:GD k=s:=by rw[hk];cases s<;>rfl
  have Xp:k≠.eq:=by rw[hk];cases s<;>simp
  cases h1:(FM.b9 s p β os).1 with
  |true=>
   obtain⟨hr,D,hI⟩:=tM hB h1;have e:jX (FM.b9 s p β os)=.tuple [.str "follows",.list ((FM.b9 s p β os).2.map qD)]:=if_pos h1;rw[e];exact hT.Uj _ _ _ (hP.one D _ _ c (k,p,β) os _ Xp hI hr.1.len Pr (by show uD (GD k) p β _=true;rw[xD];exact qw hlen hr))
  |false=>
   obtain⟨hr,hx⟩:=tN hB dA h1;have e:jX (FM.b9 s p β os)=.tuple [.str "breaks",aR (FM.b9 s p β os).2]:=if_neg (by rw[h1];exact Bool.false_ne_true);rw[e];refine AI (o:=(k,p,β)) hB dA hH hT hr.len hx hr.others ?_;show ¬FM.rel k _ _;rw[hk];exact hr.line
 cases k with
 |lt=>exact one true rfl
 |le=>exact one false rfl
 |eq=>
  show F [ao (.eq,p,β),.list (os.map ao),if(FM.b9 false p β os).1=true then(if(FM.b9 false (p.map λq=>0-q) (0-β) os).1=true then .tuple [.str "follows",.tuple [.list ((FM.b9 false p β os).2.map qD),.list ((FM.b9 false (p.map λq=>0-q) (0-β) os).2.map qD)]]else jX (FM.b9 false (p.map λq=>0-q) (0-β) os))else jX (FM.b9 false p β os)]=_;have VO:SR (bL c e (p.map λq=>0-q).length) (0-β):=by rw[length_map];exact gx dA
  cases h1:(FM.b9 false p β os).1 with
  |false=>
   rw[if_neg Bool.false_ne_true];obtain⟨hr,hx⟩:=tN hB dA h1;have e:jX (FM.b9 false p β os)=.tuple [.str "breaks",aR (FM.b9 false p β os).2]:=if_neg (by rw[h1];exact Bool.false_ne_true);rw[e];refine AI (o:=(.eq,p,β)) hB dA hH hT hr.len hx hr.others ?_;intro(z:FM.aB p _=β);exact hr.line (show FM.aB p _<=β by rw[z];grind)
  |true=>
   rw[if_pos rfl];obtain⟨hr,D,hI⟩:=tM hB h1;cases h2:(FM.b9 false (p.map λq=>0-q) (0-β) os).1 with
   |false=>
    rw[if_neg Bool.false_ne_true];obtain⟨lR,eh⟩:=tN hB.neg VO h2;have e:jX (FM.b9 false (p.map λq=>0-q) (0-β) os)=.tuple [.str "breaks",aR (FM.b9 false (p.map λq=>0-q) (0-β) os).2]:=if_neg (by rw[h2];exact Bool.false_ne_true);rw[e];have sQ:=lR.len;rw[length_map]at sQ eh;refine AI (o:=(.eq,p,β)) hB dA hH hT sQ eh lR.others ?_;intro(z:FM.aB p _=β);exact lR.line (show FM.aB (p.map λq=>0-q) _<=0-β by rw[ni,z];grind)
   |true=>
    rw[if_pos rfl];obtain⟨lR,D2,CG⟩:=tM hB.neg h2;have CG:vv D2 (bL c e p.length+bL c e p.length+1) (bL c e p.length+bL c e p.length) c p.length os (FM.b9 false (p.map λq=>0-q) (0-β) os).2:=by
     have:=CG;rw[length_map]at this;exact this
    exact hT.Uj _ _ _ (hP.two D D2 _ _ c (.eq,p,β) os _ _ rfl hI CG hr.1.len lR.1.len Pr (qw hlen hr) (qw (by rw[length_map];exact hlen) lR))
theorem Sk{k:Str}(h:Kd k):∃n:FM.Kn,k=bw n:=by
 rcases h with e|e|e
 ·exact⟨.eq,e⟩
 ·exact⟨.lt,e⟩
 ·exact⟨.le,e⟩
variable {g:aw->Option Fl} {cU:List Dat} {d:Dat}
theorem BR{N:List Str}{es:List Dat}(h:g (startM N ds es)=some (.rm d Γ))(h0:Γ[0]?=some (some (.own cU))):runM N g ds es=some (d,cU):=by
 unfold runM;rw[h];show(match (Γ[0]? : Option (Option Slot))with|some (some (.own cU))=>some (d,cU)|_=>none)=_
 rw[h0]
theorem sC{gt:Dat->Option cN}{fe:HF}{tl:aw}{β:Type}(enc:β->Dat)(Pp:β->Prop):∀(ak:List Dat),(∀d∈ak,∀r:R,dC r->∃as,gt d=some as/\∃(x:β) (r':R) (F1:aw),fe (setG (some (.own (rD r))::tl) as)=some (enc x,some (.own (rD r'))::F1)/\dC r'/\Pp x)->
  ∀r:R,dC r->∃(xs:List β) (r':R),kA gt fe tl ak (rD r)=some (xs.map enc,rD r')/\dC r'/\xs.length=ak.length/\∀x∈xs,Pp x
 |[],_,r,h=>⟨[],r,rfl,h,rfl,λx hx=>by simp at hx⟩
 |d::ak,st,r,h=>by
  obtain⟨as,e1,x,r1,F1,e2,h1,px⟩:=st d mem_cons_self r h;obtain⟨xs,r2,e3,h2,hl,hp⟩:=sC enc Pp ak (λd hd=>st d (mem_cons_of_mem _ hd)) r1 h1;refine⟨x::xs,r2,?_,h2,by rw[length_cons,length_cons,hl],λy hy=>?_⟩
  ·show(gt d).bind _=_;rw[e1];show(fe (setG (some (.own (rD r))::tl) as)).bind _=_;rw[e2];show((kA gt fe tl ak (rD r1)).map _)=_;rw[e3];rfl
  ·rcases mem_cons.mp hy with e|h
   ·rw[e];exact px
   ·exact hp y h
theorem F4{s:Nat}(h:AU c s p x):SR (LN c s p.length) (FM.aB p x):=by
 have h1:=yC (c:=c) (s:=s) (p.zip x) 1 0 (λq hq=>⟨h.sp q.1 (of_mem_zip hq).1,h.sx q.2 (of_mem_zip hq).2⟩) (kf (by decide));have e:=nk p x 0 h.len;rw[e,length_zip,h.len,min_self]at h1;rw[show(0:Rat)+FM.aB p x=FM.aB p x by grind]at h1;exact h1
theorem N0:cM (.list []) (.list [])=some (.bool true):=by
 unfold cM;rw[JG rfl (λb h=>by cases h) (λb h=>by cases h)];rfl
theorem JE(c:Int)(cs:List Int)(h:kqdOk 9 (.list ((c::cs).map .int))=true):cM (.list ((c::cs).map .int)) (.list [])=some (.bool false):=by
 have e:eqB (.list ((c::cs).map .int)) (.list [])=if kqdOk 9 (.list ((c::cs).map .int))=true/\kqdOk 9 (.list [])=true then some (lL (.list ((c::cs).map .int)) (.list []))else none:=rfl;unfold cM;rw[e,if_pos ⟨h,rfl⟩,lC (λz=>by cases z)];rfl
def Oo (c:Int):R:=((c.natAbs:Int),((c.fmod 2147483647+1)*742938285).fmod 2147483647)
theorem Om(c:Int):dC (Oo c):=by
 have:=mx ((c.fmod 2147483647+1)*742938285) (b:=2147483647) (by decide);exact⟨this.1,by show((c.fmod 2147483647+1)*742938285).fmod 2147483647<_;omega⟩
abbrev Il:List Dat->Option (List Dat):=λds=>match ds with|[.int c]=>some (rD ((c.natAbs:Int),((c.fmod 2147483647+1)*742938285).fmod 2147483647))|_=>none
def EI:List Dat->Option Dat:=open Classical in λds=>if ∃ns:List Int,ds=[.list (ns.map .int)]/\ns.length<=63 then some (.bool true)else none
theorem ML(cs:List Int)(h:cs.length<=63):kqdOk 9 (.list (cs.map .int))=true:=by
 show(cs.map Dat.int).all (kqdOk 8)=true;rw[all_map,all_eq_true];exact λx _=>rfl
variable {I:aw->Prop}
theorem M3(h:gt d=some as)(h2:∃af,gb (setG Γ as)=some (.nx af)/\I af):∃as af,gt d=some as/\gb (setG Γ as)=some (.nx af)/\I af:=⟨as,h2.choose,h,h2.choose_spec⟩
variable {Γ1:aw}
theorem j1(h:g1 Γ=some (.nx Γ1))(h2:∃af,g2 Γ1=some (.nx af)/\I af):∃af,du g1 g2 Γ=some (.nx af)/\I af:=by
 obtain⟨af,e,i⟩:=h2;exact⟨af,by rw[aA h];exact e,i⟩
theorem HK(ds:List Dat)(m:Nat):L3.cutD ds none (some (m:Int))=ds.take m:=by
 unfold L3.cutD;rw[HT.oo,HT.oY,drop_zero,sub_zero];by_cases h:m<=ds.length
 ·rw[Nat.min_eq_left h]
 ·rw[Nat.min_eq_right (by omega),List.take_of_length_le (le_refl _),List.take_of_length_le (by omega)]
theorem QP(ds:List Dat)(m:Nat):L3.cutD ds (some (m:Int)) none=ds.drop m:=by
 unfold L3.cutD;rw[HT.oo,HT.oY];by_cases h:m<=ds.length
 ·rw[Nat.min_eq_left h,List.take_of_length_le (by rw[length_drop];omega)]
 ·rw[Nat.min_eq_right (by omega),drop_eq_nil_of_le (le_refl _),drop_eq_nil_of_le (by omega),List.take_nil]
theorem CM{gt:Dat->Option cN}{gb:aw->Option Fl}{β:Type}(enc:β->Dat)(I:Nat->aw->Prop)(B:Nat):∀(l:List β) (k:Nat) (Γ:aw),k+l.length<=B->(∀p∈l,∀k Γ,k<B->I k Γ->∃as,gt (enc p)=some as/\∃af,gb (setG Γ as)=some (.nx af)/\I (k+1) af)->I k Γ->∃af,forL gt gb (l.map enc) Γ=some (.nx af)/\I (k+l.length) af
 |[],k,Γ,_,_,h=>⟨Γ,rfl,h⟩
 |p::l,k,Γ,hB,st,h=>by
  rw[length_cons]at hB;obtain⟨as,e1,Γ1,e2,h1⟩:=st p mem_cons_self k Γ (by omega) h;obtain⟨iP,e3,h2⟩:=CM enc I B l (k+1) Γ1 (by omega) (λq hq=>st q (mem_cons_of_mem _ hq)) h1;refine⟨iP,?_,by rw[length_cons,add_comm l.length,<- Nat.add_assoc];exact h2⟩;show(gt (enc p)).bind _=_;rw[e1];show(gb (setG Γ as)).bind _=_;rw[e2];exact e3
variable {cA:List (Option Nat)} {ak:List Dat}
theorem Aa{fe:HF}(h0:Γ[i]?=some (some (.own ds)))(hf:fi (bj Γ)=some ak)(hl:ak.length<sizeLine)(hc:kA gt fe (km (dm cA (bj Γ))) ak ds=some (out,cU)):m9 i cA gt fe fi Γ=some (out,Γ.set i (some (.own cU))):=by
 unfold m9;rw[h0];show((fi (bj Γ)).bind _)=_;rw[hf,Option.bind_some,if_pos hl,hc];rfl
theorem Fz{fe:HF}(hv:m9 i cA gt fe fi Γ=some (out,af)):uw j (pF gO (jf (hL (m9 i cA gt fe fi)) mT)) Γ=some (.nx (af.set j (some (.a7 (.tuple out))))):=by
 unfold uw pF jf hL mT;rw[hv];rfl
def qZ (o:FM.Ol) (os:List FM.Ol):Bool:=match o.1 with
 | .lt=>(FM.b9 true o.2.1 o.2.2 os).1
 | .le=>(FM.b9 false o.2.1 o.2.2 os).1
 | .eq=>(FM.b9 false o.2.1 o.2.2 os).1&&(FM.b9 false (o.2.1.map λq=>0-q) (0-o.2.2) os).1
theorem Eg(h:Bool×List Rat):bA (jX h) (.int 0)=some (.str (if h.1=true then "follows" else "breaks")):=by
 unfold jX;by_cases c:h.1=true
 ·rw[if_pos c,if_pos c];rfl
 ·rw[if_neg c,if_neg c];rfl
theorem Wb(o:FM.Ol)(os:List FM.Ol):bA (Ai o.1 o.2.1 o.2.2 os) (.int 0)=some (.str (if qZ o os=true then "follows" else "breaks")):=by
 unfold Ai qZ;cases o.1 with
 |lt=>exact Eg _
 |le=>exact Eg _
 |eq=>
  dsimp only;by_cases c1:(FM.b9 false o.2.1 o.2.2 os).1=true
  ·rw[if_pos c1,c1,Bool.true_and];by_cases c2:(FM.b9 false (o.2.1.map λq=>0-q) (0-o.2.2) os).1=true
   ·rw[if_pos c2,if_pos c2];rfl
   ·rw[if_neg c2];exact Eg _
  ·rw[if_neg c1,Eg];rw[Bool.not_eq_true]at c1;rw[c1];rfl
theorem pC{s:Bool}(hl:∀o∈os,o.2.1.length=p.length):(FM.b9 s p β os).1=true↔∀x:List Rat,x.length=p.length->(∀q∈os,FM.bE q x)->FM.rel (if s=true then .lt else .le) (FM.aB p x) β:=by
 constructor
 ·intro h x _ hx;rcases FM.sh hl s β with⟨_,r⟩|⟨z,_⟩
  ·exact FM.nY hl r hx
  ·rw[h]at z;cases z
 ·intro h;rcases FM.sh hl s β with⟨z,_⟩|⟨_,r⟩
  ·exact z
  ·exact absurd (h _ r.len r.others) r.line
theorem CQ(hl:∀q∈os,q.2.1.length=o.2.1.length):qZ o os=true↔∀x:List Rat,x.length=o.2.1.length->(∀q∈os,FM.bE q x)->FM.bE o x:=by
 unfold qZ FM.bE;cases o.1 with
 |lt=>exact pC hl
 |le=>exact pC hl
 |eq=>
  dsimp only;rw[and_eq_true,pC hl,pC (λq hq=>by rw[length_map];exact hl q hq)];constructor
  ·rintro⟨h1,h2⟩ x jh hx;have a:FM.aB o.2.1 x<=o.2.2:=h1 x jh hx;have b:FM.aB (o.2.1.map λq=>0-q) x<=0-o.2.2:=h2 x (by rw[length_map];exact jh) hx;rw[ni]at b;show FM.aB o.2.1 x=o.2.2;grind
  ·intro h;refine⟨λx jh hx=>?_,λx jh hx=>?_⟩
   ·have a:FM.aB o.2.1 x=o.2.2:=h x jh hx;show FM.aB o.2.1 x<=o.2.2;grind
   ·have a:FM.aB o.2.1 x=o.2.2:=h x (by rw[length_map]at jh;exact jh) hx;show FM.aB (o.2.1.map λq=>0-q) x<=0-o.2.2;rw[ni];grind
theorem wc{r:R}(h:dC r):∃q:Rat,jY (cR r false).1=qD q/\SR 5 q:=by
 have key:(cR r false).1.1.natAbs<2^5/\(cR r false).1.2.natAbs<2^5:=by
  unfold cR;split
  ·have b:=dH (tr r 8) (m:=7) (by decide);exact⟨by show(tk (tr r 8) 7-3).natAbs<_;omega,by show(1:Int).natAbs<2^5;decide⟩
  ·split
   ·exact⟨by show(0:Int).natAbs<2^5;decide,by show(1:Int).natAbs<2^5;decide⟩
   ·rw[if_neg (λz=>by cases z.2)];have b1:=dH (tr r 8) (m:=41) (by decide);have b2:=dH (tr (tr r 8) 41) (m:=12) (by decide);exact⟨lt_of_le_of_lt (Fr.pN (by omega)) (by omega),lt_of_le_of_lt (Fr.pO (by omega)) (by omega)⟩
 have hs:=(mw (g:=false) h).1;generalize (cR r false).1=x at *;refine⟨⟨x.1,x.2.natAbs,by have:=hs.pos;omega,hs.AB⟩,?_,⟨key.1,key.2⟩⟩;show Dat.tuple [.int x.1,.int x.2]=Dat.tuple [.int x.1,.int (x.2.natAbs:Int)];rw[show(x.2.natAbs:Int)=x.2 by have:=hs.pos;omega]
theorem Hx:∀(n:Nat) {r:R},dC r->∃qs:List Rat,(mX n r false).1.map jY=qs.map qD/\qs.length=n/\∀q∈qs,SR 5 q
 |0,r,_=>⟨[],rfl,rfl,λq hq=>by simp at hq⟩
 |n+1,r,h=>by
  obtain⟨q,e,sq⟩:=wc h;obtain⟨qs,e2,hl,s2⟩:=Hx n (mw (g:=false) h).2;refine⟨q::qs,?_,by rw[length_cons,hl],λy hy=>?_⟩
  ·show jY (cR r false).1::(mX n (cR r false).2 false).1.map jY=qD q::qs.map qD;rw[e,e2]
  ·rcases mem_cons.mp hy with e|hy
   ·rw[e];exact sq
   ·exact s2 y hy
theorem tJ{r:R}(h:dC r)(hm:m<=9):∃(o:FM.Ol) (r':R),ip (rD r) [.int (m:Int),.bool false]=some (ao o,rD r')/\dC r'/\rG 5 m o:=by
 have o1:=dE (m:=5) h;have e:=Im (g:=false) (m:=(m:Int)) h (by omega) (by omega);obtain⟨p1,p2,p3⟩:=Ax ((m:Int)).toNat (g:=false) o1;have b2:=(mw (g:=false) p2).2;obtain⟨kn,hk⟩:=Sk (L4 (dH r (m:=5) (by decide))).2;obtain⟨qs,e2,hl,s2⟩:=Hx ((m:Int)).toNat o1;obtain⟨q,e3,s3⟩:=wc p2;refine⟨(kn,qs,q),(Gz r (m:Int) false).2,?_,b2,by show qs.length=m;rw[hl];rfl,s2,s3⟩;refine e.trans ?_;show some (Dat.tuple [.str (zI (tk r 5)),.tuple ((mX ((m:Int)).toNat (tr r 5) false).1.map jY),jY (cR (mX ((m:Int)).toNat (tr r 5) false).2 false).1],_)=_;rw[hk,e2,e3]
abbrev sX (m:Nat) (o:FM.Ol):Prop:=o.2.1.length=m/\(∀q∈o.2.1,SR 5 q)/\SR 40 o.2.2
theorem CD{rg:List Dat->Option (List Dat)}{hs:aw->Option (List Dat×aw)}{as:List Dat}(h:hs Γ=some (as,af))(h2:rg as=some ak):Jw rg hs Γ=some (ak,af):=by
 unfold Jw;rw[h];show(rg as).map _=_;rw[h2];rfl
theorem IA(hl:p.length=m)(hp:∀q∈p,SR 5 q)(hm:x.length=m)(h3:m<=3)(hx:∀q∈x,SR 5 q):AU 5 5 p x/\SR 34 (FM.aB p x):=by
 have hI:AU 5 5 p x:=⟨by omega,hp,hx,by rw[hl];show 1+m*11<=_;omega,by decide⟩;exact⟨hI,(F4 hI).up (by rw[hl];show 1+m*11<=_;omega)⟩
theorem Oh(h:n<=1000):jI [.int (n:Int)]=some ((range' 0 n).map nat):=by
 rw[DJ n (by omega)];unfold gH;rw[List.range_eq_range'];congr 1
 exact map_congr_left λi _=>by rw[Int.zero_add]
def WP (o:Option Fl) (Q:Fl->Prop):Prop:=∃fl,o=some fl/\Q fl
theorem wp_seq{Q:Fl->Prop}(h:g1 Γ=some (.nx Γ1))(h2:WP (g2 Γ1) Q):WP (du g1 g2 Γ) Q:=by
 rw[aA h];exact h2
theorem wp_seqx{Q:Fl->Prop}(I:aw->Prop)(h:∃Γ1,g1 Γ=some (.nx Γ1)/\I Γ1)(h2:∀Γ1,I Γ1->WP (g2 Γ1) Q):WP (du g1 g2 Γ) Q:=by
 obtain⟨Γ1,e,i⟩:=h;exact wp_seq e (h2 Γ1 i)
theorem wp_runM{N:List Str}{es:List Dat}(D:α->Dat)(S:α->List Dat)(Pp:α->Prop)(h:WP (g (startM N ds es)) (λfl=>∃a Γ,fl=.rm (D a) Γ/\Γ[0]?=some (some (.own (S a)))/\Pp a)):∃a,runM N g ds es=some (D a,S a)/\Pp a:=by
 obtain⟨fl,e,a,Γ,rfl,h0,p⟩:=h;exact⟨a,BR e h0,p⟩
theorem Uo{β γ:Type}{Q:α->β->γ->Prop}(h:∃a:α×β×γ,Q a.1 a.2.1 a.2.2):∃x y z,Q x y z:=by
 obtain⟨⟨x,y,z⟩,q⟩:=h;exact⟨x,y,z,q⟩
theorem CP{hI:aw->Option (List Dat×aw)}(h:hI Γ=some (ak,Γ1))(h2:∃iP,forL gt gb ak Γ1=some (.nx iP)/\I iP):∃iP,DH gt gb hI Γ=some (.nx iP)/\I iP:=by
 obtain⟨iP,e,i⟩:=h2;refine⟨iP,?_,i⟩;unfold DH;rw[h];exact e
abbrev RE (F:List Dat->List Dat->Option (Dat×List Dat)):Prop:=∀(r:R) (m:Nat),dC r->m<=3->∃(x:List Rat) (os:List FM.Ol) (r':R),F (rD r) [.int (m:Int)]=some (.tuple [aR x,.list (os.map ao)],rD r')/\dC r'/\x.length=m/\(∀q∈x,SR 5 q)/\1<=os.length/\os.length<=5/\∀o∈os,sX m o/\FM.bE o x/\o.1≠.eq
variable {t:Int}
theorem Tq(h:0<=t/\t<2):∃k:FM.Kn,bA (.list [.str "<=",.str "<"]) (.int t)=some (.str (bw k))/\k≠.eq:=by
 rcases(show t=0\/t=1 by omega)with e|e
 ·subst e;exact⟨.le,rfl,by decide⟩
 ·subst e;exact⟨.lt,rfl,by decide⟩
theorem YE(h:0<=t/\t<2):∃q:Rat,bA (.list [.tuple [.int 0,.int 1],.tuple [.int 1,.int 3]]) (.int t)=some (qD q)/\SR 3 q/\0<=q:=by
 rcases(show t=0\/t=1 by omega)with e|e
 ·subst e;exact⟨0,rfl,⟨by decide,by decide⟩,by decide⟩
 ·subst e;exact⟨⟨1,3,by decide,by decide⟩,rfl,⟨by decide,by decide⟩,by decide⟩
theorem QN(T:TX P K mg)(oM:Dn P w K mg base 43 "_law_sum" ["parts","point"] 2 Fs)(hS:LM Fs)(lj:fM P w K mg base 43 "_law_fraction" ["reel","great"] 2 nc)(oN:fM P w K mg base 43 "_law_line" ["reel","many","great"] 3 ip)(cg:fM P w K mg base 43 "_law_take" ["reel","many"] 2 ik)(kX:Dn P w K mg base 43 "_law_plus" ["a","b"] 2 j6)(U:FnAt K mg "_law_base" (top 61) ["reel","many"]):
  ∃F,fM P w K mg base 44 "_law_base" ["reel","many"] 2 F/\RE F:=by
 refine⟨_,ye ["reel","many","point","others","k","kind","parts","bound","by"] U λnd _ _ _ _ _ _ _ hr=>
  (ae (dQ 2 nd (xn T.tuple (aH (tv (xm 0 rfl (pM (tn:=["k"]) (fv:=["reel"]) (js:=[0]) rfl (by decide +kernel) (by decide +kernel) rfl (by decide +kernel) (by decide +kernel) rfl
   (λx hx=>by((have eh:x="reel":=(by simpa using hx));(rcases eh with rfl<;>exact⟨_,rfl⟩)))
   (λp hp=>by((have fc:p=(("reel" : Str),(0:Nat)):=(by simpa using hp));(rcases fc with rfl<;>exact⟨rfl,.inr (.inl rfl),.inl rfl,λz=>by cases z⟩)))) (ju T.range (a6 (a5 1) a9)) (λ_ _ _ _=>(aq 1 (show(["reel","k"]:List Str).Nodup by decide +kernel))) (λ_ _ _ _=>(bK 0 lj hr (aH (aD cZ) aY))) (cV rfl))) aY)))
  (ae (kQ 3 nd (gZ a9))
  (ae (xj PassesOwn.never rfl (sI T.range (aH (ou (aD a8) (bK 0 cg hr (aH (aD a8) aY))) aY (hst:=cC))) (aq 4 nd)
  (ae (jU (bK 0 oN hr (aH (aD (a5 1)) (aH (aD cZ) aY))) (c8 (n:=3) rfl (aI (aq 5 nd) (aI (aq 6 nd) (aI (aq 7 nd) bQ)))))
  (ae (dQ 5 nd (ot (aD (eC (a6 aT (a6 aT a9)))) (bK 0 cg hr (aH (aD a8) aY))))
  (ae (dQ 8 nd (ot (aD (eC (a6 (aX (k:=0) (a6 a8 (a6 a8 a9))) (a6 (aX (k:=0) (a6 a8 (a6 a8 a9))) a9 (hs:=cJ)) (hs:=cJ)))) (bK 0 cg hr (aH (aD a8) aY))))
  (ae (bc (cy hr (a5 5) aT) (ag (aC 8 nd (aX (k:=0) (a6 a8 (a6 a8 a9))))) aV)
  (ag (ir 3 (aX (k:=0) (a6 (a5 5) (a6 (a5 6) (a6 (ay kX hr (a6 (ay oM hr (a6 (a5 6) (a6 (a5 2) a9))) (a6 (a5 8) a9) (hs:=aZ))) a9 (hs:=aZ))))))))))))
  (ag (FP 3 (aD (aX (k:=0) (a6 (a5 2) (a6 (a5 3) a9))))))))),?_⟩
 intro r m hR hm;have z0:0<=sizeLine:=zero_le _;have z2:2<=sizeLine:=sz (by decide);have z3:3<=sizeLine:=sz (by decide);have xC:m<sizeLine:=lt_of_lt_of_le (show m<1000 by omega) (sz (by decide));have eR:jI [.int (m:Int)]=some (gH 0 m):=DJ m (by omega);obtain⟨xs,r1,ec,R1,xl,hx⟩:=sC (gt:=aName 1) (fe:=pE 0 2 nc (jf (iL (fC (.bool false))) mT)) (tl:=[none]) qD (SR 5) (gH 0 m) (λd _ r hr=>by
  have e:=rH (g:=false) hr;obtain⟨s1,s2⟩:=mw (g:=false) hr;obtain⟨q,eq,sq⟩:=wc hr;refine⟨[(1,d)],rfl,q,(cR r false).2,[~~~d],?_,s2,sq⟩;rw[<- eq];simp![e]) r hR
 rw[iq]at xl;have uX:∀r:R,dC r->∃(o:FM.Ol) (r':R),ip [.int r.1,.int r.2] [.int (m:Int),.bool false]=some (ao o,rD r')/\dC r'/\rG 5 m o:=λr hr=>tJ hr (by omega);generalize (m:Int)=mi at *;have f5:=cx (m:=5) R1 (by decide) (by decide);have b5:=dH r1 (m:=5) (by decide);have R2:=dE (m:=5) R1;generalize tk r1 5=t5 at f5 b5;generalize tr r1 5=r2 at f5 R2;obtain⟨n5,PR⟩:∃n:Nat,1+t5=(n:Int):=⟨(1+t5).toNat,by omega⟩;have Yu:jI [.int (1+t5)]=some ((range' 0 n5).map nat):=by rw[PR];exact Oh (by omega)
 refine Uo (wp_runM (λa:List Rat×List FM.Ol×R=>.tuple [aR a.1,.list (a.2.1.map ao)]) (λa=>rD a.2.2) (λa=>dC a.2.2/\a.1.length=m/\(∀q∈a.1,SR 5 q)/\1<=a.2.1.length/\a.2.1.length<=5/\∀o∈a.2.1,sX m o/\FM.bE o a.1/\o.1≠.eq) ?_)
 ·simp only[startM,map_cons,map_nil,length_cons,length_nil,cons_append,nil_append,List.replicate];refine wp_seq (Γ1:=[some (.own (rD r1)),~~~.int mi,~~~(aR xs),none,none,none,none,none,none]) (Fz (Aa rfl (mQ rfl eR) (by rw[iq];exact xC) ec)) ?_;refine wp_seq (Γ1:=[some (.own (rD r1)),~~~.int mi,~~~(aR xs),some (.own ([])),none,none,none,none,none]) (by simp![z0]) ?_;refine wp_seqx (λΓ=>∃(os:List FM.Ol) (r':R) (u4 u5 u6 u7 u8:Option Slot),Γ=[some (.own (rD r')),~~~.int mi,~~~(aR xs),some (.own (os.map ao)),u4,u5,u6,u7,u8]/\dC r'/\os.length=0+(range' 0 n5).length/\∀o∈os,sX m o/\FM.bE o xs/\o.1≠.eq) (CP (Γ1:=[some (.own (rD r2)),~~~.int mi,~~~(aR xs),some (.own ([])),none,none,none,none,none]) (CD (by simp![f5,c9]) Yu) (CM nat (λk Γ=>∃(os:List FM.Ol) (r':R) (u4 u5 u6 u7 u8:Option Slot),Γ=[some (.own (rD r')),~~~.int mi,~~~(aR xs),some (.own (os.map ao)),u4,u5,u6,u7,u8]/\dC r'/\os.length=k/\∀o∈os,sX m o/\FM.bE o xs/\o.1≠.eq) 63 (range' 0 n5) 0 _ (by rw[length_range'];omega) ?_ ⟨[],r2,none,none,none,none,none,rfl,R2,rfl,λo ho=>by simp at ho⟩)) ?_
  ·rintro i _ k Γ hk ⟨os,r3,u4,u5,u6,u7,u8,rfl,R3,hl,bx⟩;refine⟨[(4,nat i)],rfl,?_⟩;dsimp!;have zl:os.length<sizeLine:=lt_of_lt_of_le (show os.length<1000 by omega) (sz (by decide));obtain⟨⟨k0,p,β⟩,r4,eL,R4,hL⟩:=uX r3 R3;have Qj:ip [.int r3.1,.int r3.2] [.int mi,.bool false]=some (.tuple [.str (bw k0),aR p,qD β],rD r4):=eL;have f2:=cx (m:=2) R4 (by decide) (by decide);have b2:=dH r4 (m:=2) (by decide);have R5:=dE (m:=2) R4;generalize tk r4 2=t2 at f2 b2;generalize tr r4 2=r5 at f2 R5;have Qf:=cx (m:=2) R5 (by decide) (by decide);have Ut:=dH r5 (m:=2) (by decide);have R6:=dE (m:=2) R5;generalize tk r5 2=t2b at Qf Ut;generalize tr r5 2=r6 at Qf R6;obtain⟨kn,ek,zZ⟩:=Tq b2;obtain⟨LI,Yp,WJ,nby⟩:=YE Ut;obtain⟨hI,ss⟩:=IA hL.1 hL.2.1 xl hm hx;have es:=hS 5 5 p xs hI;have WK:SR 3 (⟨1,3,by decide,by decide⟩:Rat):=⟨by decide,by decide⟩;have p13:(0:Rat) < ⟨1,3,by decide,by decide⟩:=by decide
   generalize X2:FM.aB p xs=wx at es ss;have ma:∀o':FM.Ol,os.map ao++[ao o']=(os++[o']).map ao:=λo'=>by rw[map_append];rfl
   have mo:∀o':FM.Ol,(sX m o'/\FM.bE o' xs/\o'.1≠.eq)->∀q∈os++[o'],sX m q/\FM.bE q xs/\q.1≠.eq:=λo' nI q hq=>by
    rcases mem_append.mp hq with h|h
    ·exact bx q h
    ·rw[mem_singleton.mp h];exact nI
   refine j1 (Γ1:=[some (.own (rD r4)),~~~.int mi,~~~(aR xs),some (.own (os.map ao)),~~~(nat i),~~~.str (bw k0),~~~(aR p),~~~(qD β),u8]) (by dsimp![Qj]) ?_;refine j1 (Γ1:=[some (.own (rD r5)),~~~.int mi,~~~(aR xs),some (.own (os.map ao)),~~~(nat i),~~~.str (bw kn),~~~(aR p),~~~(qD β),u8]) (by dsimp![z2,f2,ek]) ?_;refine j1 (Γ1:=[some (.own (rD r6)),~~~.int mi,~~~(aR xs),some (.own (os.map ao)),~~~(nat i),~~~.str (bw kn),~~~(aR p),~~~(qD β),~~~(qD LI)]) (by dsimp![z2,Qf,Yp]) ?_;obtain⟨q,sq,hq,Ym⟩:∃q:Rat,SR 3 q/\FM.rel kn wx (wx+q)/\∀Γ:aw,Γ=[some (.own (rD r6)),~~~.int mi,~~~(aR xs),some (.own (os.map ao)),~~~(nat i),~~~.str (bw kn),~~~(aR p),~~~(qD β),~~~(qD LI)]->mG (bS (L3.f2 cM (aN 5) (fC (.str "<")))) (iA 8 (kx (bh (fC (.int 1)) (bh (fC (.int 3)) cG)))) kg Γ=some (.nx [some (.own (rD r6)),~~~.int mi,~~~(aR xs),some (.own (os.map ao)),~~~(nat i),~~~.str (bw kn),~~~(aR p),~~~(qD β),~~~(qD q)]):=by
    cases kn with
    |eq=>exact absurd rfl zZ
    |le=>exact⟨LI,WJ,by show wx<=wx+LI;grind,λΓ h=>by subst h;dsimp![bw,Hn (show("<=" : Str)≠"<" by decide)]⟩
    |lt=>
     refine⟨⟨1,3,by decide,by decide⟩,WK,by show wx<wx+(⟨1,3,by decide,by decide⟩:Rat);grind,λΓ h=>?_⟩;subst h;have Yx:(.tuple [.int 1,.int 3]:Dat)=qD (⟨1,3,by decide,by decide⟩:Rat):=rfl;dsimp![bw,MZ rfl,z2,Yx]
   refine j1 (Ym _ rfl) ?_;have ep:=lG ss sq (by decide) (by decide);refine⟨[some (.own (rD r6)),~~~.int mi,~~~(aR xs),some (.own ((os++[(kn,p,wx+q)]).map ao)),~~~(nat i),~~~.str (bw kn),~~~(aR p),~~~(qD β),~~~(qD q)],?_,os++[(kn,p,wx+q)],r6,_,_,_,_,_,rfl,R6,by rw[length_append];simp;omega,mo _ ⟨⟨hL.1,hL.2.1,(ss.add sq).up (by decide)⟩,by unfold FM.bE;dsimp only;rw[X2];exact hq,zZ⟩⟩;rw[<- ma];have eo:ao (kn,p,wx+q)=.tuple [.str (bw kn),aR p,qD (wx+q)]:=rfl;rw[eo];dsimp![es,ep,z3,length_map,zl]
  ·rintro Γ ⟨os,r',u4,u5,u6,u7,u8,rfl,R',hl,bx⟩;rw[length_range']at hl;refine⟨.rm (.tuple [aR xs,.list (os.map ao)]) [some (.own (rD r')),~~~.int mi,~~~(aR xs),~~~.list (os.map ao),u4,u5,u6,u7,u8],by dsimp![qV,z2],⟨xs,os,r'⟩,_,rfl,rfl,R',xl,hx,by show 1<=os.length;omega,by show os.length<=5;omega,bx⟩
theorem IB{f:aw->Option (List Dat×aw)}(h:f Γ=some (out,Γ1)):yI j f Γ=some (.nx (Γ1.set j (some (.a7 (.list out))))):=by
 unfold yI;rw[h];rfl
theorem Pn{f:ar->Option Dat}(h:f ρ=some d)(h2:cI d=some ds):xA f ρ=some ds:=by
 unfold xA;rw[h];exact h2
theorem RH{a b:Int}(ha:0<=a/\a<4)(hb:0<=b/\b<3):∃q:Rat,mk (1+a) (1+b)=qD q/\0<q/\rB 6 5 q:=by
 have hq:mk (1+a) (1+b)=qD (((1+a:Int):Rat)/((1+b:Int):Rat)):=by
  obtain⟨e1,e2⟩:=Fr.jt (1+a) (1+b) (by omega);show Dat.tuple [.int _,.int _]=Dat.tuple [.int _,.int _];rw[e1,e2]
 have hx:(0:Rat)<((1+a:Int):Rat):=Rat.intCast_pos.mpr (by omega);have hc:∀k:Int,(((1+a)*k:Int):Rat)=((1+a:Int):Rat)*((k:Int):Rat):=λk=>intCast_mul _ _;rcases(show b=0\/b=1\/b=2 by omega)with rfl|rfl|rfl
 ·have e1:((1+0:Int):Rat)=1:=by decide
  rw[e1]at hq;refine⟨_,hq,by grind,(1+a)*6,by omega,?_⟩;rw[hc,show((6:Int):Rat)=6 by decide];grind
 ·have e1:((1+1:Int):Rat)=2:=by decide
  rw[e1]at hq;refine⟨_,hq,by grind,(1+a)*3,by omega,?_⟩;rw[hc,show((6:Int):Rat)=6 by decide,show((3:Int):Rat)=3 by decide];grind
 ·have e1:((1+2:Int):Rat)=3:=by decide
  rw[e1]at hq;refine⟨_,hq,by grind,(1+a)*2,by omega,?_⟩;rw[hc,show((6:Int):Rat)=6 by decide,show((2:Int):Rat)=2 by decide];grind
abbrev iH (m:Nat) (os:List FM.Ol) (ws:List Rat):List Rat:=(gP m (os.zip ws)).take m
abbrev k7 (m:Nat) (os:List FM.Ol) (ws:List Rat):Rat:=(gP m (os.zip ws)).getD m 0
abbrev Rp (F:List Dat->List Dat->Option (Dat×List Dat)):Prop:=∀(r:R) (os:List FM.Ol) (m:Nat) (b:Rat),dC r->m<=3->os.length<=5->(∀o∈os,sX m o)->SR 10 b->∃(ws:List Rat) (r':R),F (rD r) [.list (os.map ao),.int (m:Int),qD b]=some (.tuple [aR ((iH m os ws).map λq=>0-q),qD (0-k7 m os ws+b)],rD r')/\dC r'/\ws.length=os.length/\(∀q∈ws,0<q)/\(∀q∈iH m os ws,SR 260 q)/\SR 260 (k7 m os ws)/\(iH m os ws).length=m
theorem QJ(T:TX P K mg)(iy:Dn P w K mg base 43 "_law_make" ["n","d"] 2 iw)(cg:fM P w K mg base 43 "_law_take" ["reel","many"] 2 ik)(oh:Dn P w K mg base 43 "_law_together" ["others","weights","many"] 3 Ft)(CC:Rb Ft)(rK:Dn P w K mg base 43 "_law_turned" ["parts","bound"] 2 Fu)(Lm:∀(p:List Rat) (β:Rat),p.length<=100->Fu [aR p,qD β]=some (.tuple [aR (p.map λq=>0-q),qD (0-β)]))(kX:Dn P w K mg base 43 "_law_plus" ["a","b"] 2 j6)(U:FnAt K mg "_law_last" (top 62) ["reel","others","many","by"]):
  ∃F,fM P w K mg base 44 "_law_last" ["reel","others","many","by"] 4 F/\Rp F:=by
 refine⟨_,ye ["reel","others","many","by","weights","parts","bound","less","more"] U λnd _ _ _ _ _ _ _ hr=>
  (ae (DN 4 0 nd rfl (pM (tn:=["other"]) (fv:=["reel"]) (js:=[0]) rfl (by decide +kernel) (by decide +kernel) rfl (by decide +kernel) (by decide +kernel) rfl
   (λx hx=>by((have eh:x="reel":=(by simpa using hx));(rcases eh with rfl<;>exact⟨_,rfl⟩)))
   (λp hp=>by((have fc:p=(("reel" : Str),(0:Nat)):=(by simpa using hp));(rcases fc with rfl<;>exact⟨rfl,.inr (.inl rfl),.inl rfl,λz=>by cases z⟩)))) (tq (a5 1)) (λ_ _ _ _=>(aq 1 (show(["reel","other"]:List Str).Nodup by decide +kernel))) (λ_ _ _ _=>(yS iy hr (aH (ou (aD a8) (bK 0 cg hr (aH (aD a8) aY))) (aH (ou (aD a8) (bK 0 cg hr (aH (aD a8) aY))) aY (hst:=cC)) (hst:=cC)))) (cV rfl))
  (ae (mH (ay oh hr (a6 (a5 1) (a6 (a5 4) (a6 (a5 2) a9)))) (c8 (n:=2) rfl (aI (aq 5 nd) (aI (aq 6 nd) bQ))))
  (ae (mH (ay rK hr (a6 (a5 5) (a6 (a5 6) a9))) (c8 (n:=2) rfl (aI (aq 7 nd) (aI (aq 8 nd) bQ))))
  (ag (fH (aD (aX (k:=0) (a6 (a5 7) (a6 (ay kX hr (a6 (a5 8) (a6 (a5 3) a9))) a9 (hs:=aZ)))))))))),?_⟩
 intro r os m b hR hm h5 bx sb;have z2:2<=sizeLine:=sz (by decide);have zo:os.length<sizeLine:=lt_of_lt_of_le (show os.length<1000 by omega) (sz (by decide));obtain⟨ws,r1,ec,R1,wl,hw⟩:=sC (gt:=aName 1) (fe:=Lp 2 iw (jf (L3.h2 kC (iL (fC (.int 1))) (pE 0 2 ik (jf (iL (fC (.int 4))) mT))) (jf (L3.h2 kC (iL (fC (.int 1))) (pE 0 2 ik (jf (iL (fC (.int 3))) mT))) mT))) (tl:=[none]) qD (λq=>0<q/\rB 6 5 q) (os.map ao) (λd _ r hr=>by
  have f4:=cx (m:=4) hr (by decide) (by decide);have b4:=dH r (m:=4) (by decide);have R1:=dE (m:=4) hr;generalize tk r 4=t4 at f4 b4;generalize tr r 4=r1 at f4 R1;have f3:=cx (m:=3) R1 (by decide) (by decide);have b3:=dH r1 (m:=3) (by decide);have R2:=dE (m:=3) R1;generalize tk r1 3=t3 at f3 b3;generalize tr r1 3=r2 at f3 R2;obtain⟨q,eq,hp,hd⟩:=RH b4 b3;have em:=kT (n:=1+t4) (d:=1+t3) (by omega) (lt_of_lt_of_le (show(1+t3).natAbs<2^2 by omega) (pow_le_pow_right (by decide) (by decide)));rw[eq]at em;refine⟨[(1,d)],rfl,q,r2,[~~~d],?_,R2,hp,hd⟩;simp![f4,f3,c9,em]) r hR
 rw[length_map]at wl;have hI:vv 6 5 3 40 m os ws:=⟨by decide,by decide,λo ho=>⟨(bx o ho).1,λq hq=>((bx o ho).2.1 q hq).up (by decide),(bx o ho).2.2⟩,λq hq=>(hw q hq).2,by show 5+3+41*(os.length+1)<=_;omega,by omega⟩;have eT:=CC 6 5 3 40 m os ws hI;have tg:=ui (D:=6) (u:=5) (c:=40) (n:=m) (by decide) (os.zip ws) 0 _ (λp hp=>⟨hI.ol p.1 (of_mem_zip hp).1,hI.wt p.2 (of_mem_zip hp).2⟩) vH;have sr:=Dy (d:=3) (by decide) (by decide) tg;have tl:(gP m (os.zip ws)).length=m+1:=tg.len;have T3:∀x∈gP m (os.zip ws),SR 260 x:=λx hx=>(sr x hx).up (by
  have:(os.zip ws).length<=5:=by rw[length_zip];omega
  show 5+3+41*(0+(os.zip ws).length+1)<=260;omega)
 have WG:∀q∈iH m os ws,SR 260 q:=λq hq=>T3 q (List.mem_of_mem_take hq);have Ob:SR 260 (k7 m os ws):=by
  unfold k7;rw[getD_eq_getElem?_getD,getElem?_eq_getElem (by omega)];exact T3 _ (getElem_mem _)
 have pl:(iH m os ws).length=m:=by unfold iH;rw[length_take,tl];omega
 have eU:=Lm (iH m os ws) (k7 m os ws) (by omega);have sn:SR 260 (0-k7 m os ws):=⟨by rw[show(0-k7 m os ws:Rat)=-k7 m os ws by grind];show(-(k7 m os ws).num).natAbs<_;rw[natAbs_neg];exact Ob.ln,by rw[neg_den];exact Ob.ld⟩;have ep:=lG sn sb (by decide) (by decide);refine⟨ws,r1,?_,R1,wl,λq hq=>(hw q hq).1,WG,Ob,pl⟩;have Ys:Ft [.list (os.map ao),.list (ws.map qD),.int (m:Int)]=some (.tuple [aR (iH m os ws),qD (k7 m os ws)]):=eT;generalize iH m os ws=pp at *;generalize k7 m os ws=bb at *;generalize (m:Int)=mi at *;generalize hq1:aR (pp.map λq=>0-q)=d1 at *;generalize zW:qD (0-bb)=d2 at *;refine BR (Γ:=[some (.own (rD r1)),~~~.list (os.map ao),~~~.int mi,~~~(qD b),~~~.list (ws.map qD),~~~(aR pp),~~~(qD bb),~~~(d1),~~~(d2)]) ?_ rfl;simp only[startM,map_cons,map_nil,length_cons,length_nil,cons_append,nil_append,List.replicate];rw[aA (af:=[some (.own (rD r1)),~~~.list (os.map ao),~~~.int mi,~~~(qD b),~~~.list (ws.map qD),none,none,none,none]) (IB (Aa rfl (Pn (d:=.list (os.map ao)) rfl rfl) (by rw[length_map];exact zo) ec))];rw[aA (af:=[some (.own (rD r1)),~~~.list (os.map ao),~~~.int mi,~~~(qD b),~~~.list (ws.map qD),~~~(aR pp),~~~(qD bb),none,none]) (by dsimp![Ys])];rw[aA (af:=[some (.own (rD r1)),~~~.list (os.map ao),~~~.int mi,~~~(qD b),~~~.list (ws.map qD),~~~(aR pp),~~~(qD bb),~~~(d1),~~~(d2)]) (by dsimp![eU])];dsimp![ep,z2]
theorem wsum{y:List Rat}(ho:∀o∈os,o.2.1.length=m)(hl:ws.length=os.length)(hw:∀q∈ws,0<q)(hy:∀o∈os,FM.bE o y):
  FM.aB (iH m os ws) y<=k7 m os ws/\((∃o∈os,o.1=.lt)->FM.aB (iH m os ws) y<k7 m os ws):=by
 have hlen:(iH m os ws).length=m:=by
  show((gP m (os.zip ws)).take m).length=m;rw[length_take,BB ho];omega
 have La:∀c,c<(iH m os ws).length->FM.fZ os ws c=(iH m os ws).getD c 0:=by
  intro c hc;rw[hlen]at hc;rw[<- t6 ho hl hc];show _=((gP m (os.zip ws)).take m).getD c 0;rw[getD_eq_getElem?_getD,getD_eq_getElem?_getD,List.getElem?_take_of_lt hc]
 have hb:FM.jF os ws=k7 m os ws:=(BC ho hl).symm;have qS:∀i,i<os.length->0<ws.getD i 0:=λi hi=>by
  rw[getD_eq_getElem?_getD,getElem?_eq_getElem (by omega)];exact hw _ (getElem_mem _)
 have ha:FM.LY os ws:=⟨hl,λi hi _=>le_of_lt (qS i hi)⟩;have TB:∀o∈os,o.2.1.length=(iH m os ws).length:=λo h=>by rw[hlen];exact ho o h
 constructor
 ·exact FM.nY (s:=false) TB ⟨ha,.inl ⟨La,.inr ⟨hb,.inl rfl⟩⟩⟩ hy
 ·rintro⟨o,PM,hk⟩;obtain⟨i,hi,e⟩:=List.getElem_of_mem PM;refine FM.nY (s:=true) TB ⟨ha,.inl ⟨La,.inr ⟨hb,.inr ⟨i,hi,?_,qS i hi⟩⟩⟩⟩ hy;unfold FM.knd;rw[getD_eq_getElem?_getD,getElem?_eq_getElem hi,e];exact hk
theorem OX{y:List Rat}{k:FM.Kn}{b:Rat}(ho:∀o∈os,o.2.1.length=m)(hl:ws.length=os.length)(hw:∀q∈ws,0<q)(hk:k≠.eq)(hb:b<0\/(b=0/\(k=.lt\/∃o∈os,o.1=.lt)))(hy:∀o∈os,FM.bE o y)(hn:FM.bE (k,(iH m os ws).map (λq=>0-q),0-k7 m os ws+b) y):False:=by
 obtain⟨h1,h2⟩:=wsum ho hl hw hy;unfold FM.bE at hn;have hn:FM.rel k (FM.aB ((iH m os ws).map λq=>0-q) y) (0-k7 m os ws+b):=hn;rw[ni]at hn;generalize FM.aB (iH m os ws) y=W at *;generalize k7 m os ws=B at *;cases k with
 |eq=>exact hk rfl
 |le=>
  have hn:0-W<=0-B+b:=hn;rcases hb with hb|⟨hb,GZ|GZ⟩
  ·grind
  ·cases GZ
  ·have:=h2 GZ;grind
 |lt=>
  have hn:0-W<0-B+b:=hn;rcases hb with hb|⟨hb,_⟩
  ·grind
  ·grind
abbrev lI (m:Nat) (o:FM.Ol):Prop:=o.2.1.length=m/\(∀q∈o.2.1,SR 300 q)/\SR 1000 o.2.2
theorem OS(h:sX m o):lI m o:=⟨h.1,λq hq=>(h.2.1 q hq).up (by decide),h.2.2.up (by decide)⟩
theorem Ay{c:Nat}:∀{p:List Rat},(∀q∈p,SR c q)->fu p<=2^(c*p.length)
 |[],_=>by show 1<=2^(c*0);rw[Nat.mul_zero];exact le_refl _
 |q::p,h=>by
  show q.den*fu p<=_;rw[length_cons,Nat.mul_succ,add_comm,pow_add];exact mul_le_mul (Nat.le_of_lt (h q mem_cons_self).ld) (Ay λx hx=>h x (mem_cons_of_mem _ hx))
theorem sD:∀(i:Nat) {r s:Nat},r<=s->FM.cb r i<=FM.cb s i
 |0,_,_,h=>h
 |i+1,r,s,h=>sD i (add_le_add h (Nat.div_le_div_right (mul_le_mul h h)))
theorem Sd(hm:m<=3)(h:lI m o):wL 1000 2000 m o:=by
 refine⟨h.1,λq hq=>(h.2.1 q hq).up (by decide),h.2.2,?_⟩;have h1:fu o.2.1<=2^900:=le_trans (Ay h.2.1) (pow_le_pow_right (by decide) (by rw[h.1];omega));have h2:=h.2.2.ld;calc fu o.2.1*o.2.2.den<=2^900*2^1000:=mul_le_mul h1 (Nat.le_of_lt h2)
  _=2^1900:=(pow_add 2 900 1000).symm
  _<2^2000:=Nat.pow_lt_pow_right (by decide) (by decide)
theorem RW(hm:m<=3)(hk:k<=13):Rh 1000 2000 m k/\(bL 1000 2000 m+bL 1000 2000 m+1)+(bL 1000 2000 m+bL 1000 2000 m)+(1000+1)*(k+1)<=3900000/\LN 1000 (xL 1000 2000 m) m<=3900000/\1000+xL 1000 2000 m<=3900000/\1000<=bL 1000 2000 m:=by
 have xE:FM.cb (k+1) m<sizeLine:=by
  refine lt_of_le_of_lt (sD m (show k+1<=14 by omega)) ?_;rw[sizeLine_eq];rcases(show m=0\/m=1\/m=2\/m=3 by omega)with e|e|e|e<;>subst e<;>decide
 rcases(show m=0\/m=1\/m=2\/m=3 by omega)with e|e|e|e<;>subst e
 ·refine⟨⟨by decide,by decide,by decide,by decide,by omega,by decide,xE,trivial⟩,?_,by decide,by decide,by decide⟩;show(3000+3000+1)+(3000+3000)+(1000+1)*(k+1)<=3900000;omega
 ·refine⟨⟨by decide,by decide,by decide,by decide,by omega,by decide,xE,by decide,trivial⟩,?_,by decide,by decide,by decide⟩;show(6001+6001+1)+(6001+6001)+(1000+1)*(k+1)<=3900000;omega
 ·refine⟨⟨by decide,by decide,by decide,by decide,by omega,by decide,xE,by decide,by decide,trivial⟩,?_,by decide,by decide,by decide⟩;show(12003+12003+1)+(12003+12003)+(1000+1)*(k+1)<=3900000;omega
 ·refine⟨⟨by decide,by decide,by decide,by decide,by omega,by decide,xE,by decide,by decide,by decide,trivial⟩,?_,by decide,by decide,by decide⟩;show(24007+24007+1)+(24007+24007)+(1000+1)*(k+1)<=3900000;omega
theorem QV(hm:m<=3)(ho:lI m o)(fW:∀q∈os,lI m q)(hk:os.length<=13):nP 1000 2000 o.2.1 os/\SR (bL 1000 2000 o.2.1.length) o.2.2:=by
 obtain⟨s1,s2,s3,s4,s5⟩:=RW hm hk;rw[<- ho.1]at s1 s2 s3 s4 s5;refine⟨⟨⟨s1,λq hq=>(ho.2.1 q hq).up (by decide),?_,λq hq=>by rw[ho.1];exact Sd hm (fW q hq)⟩,s2,s3,s4⟩,ho.2.2.up s5⟩;exact lt_of_le_of_lt (Ay ho.2.1) (Nat.pow_lt_pow_right (by decide) (by rw[ho.1];omega))
theorem YD(h:0<=t/\t<3):∃q:Rat,bA (.list [.tuple [.int 0,.int 1],.tuple [.int (-1),.int 5],.tuple [.int (-30),.int 1]]) (.int t)=some (qD q)/\SR 10 q/\(q=0\/q<0):=by
 rcases(show t=0\/t=1\/t=2 by omega)with e|e|e
 ·subst e;exact⟨0,rfl,⟨by decide,by decide⟩,.inl rfl⟩
 ·subst e;exact⟨⟨-1,5,by decide,by decide⟩,rfl,⟨by decide,by decide⟩,.inr (by decide)⟩
 ·subst e;exact⟨⟨-30,1,by decide,by decide⟩,rfl,⟨by decide,by decide⟩,.inr (by decide)⟩
theorem Pj(k:FM.Kn):PyData.strOk (bw k)=true:=by cases k<;>decide +kernel
theorem Se(o:FM.Ol):kqdOk 8 (ao o)=true:=by
 show([Dat.str (bw o.1),.tuple (o.2.1.map qD),qD o.2.2]:List Dat).all (kqdOk 7)=true;have h:(o.2.1.map qD).all (kqdOk 6)=true:=by rw[all_map,all_eq_true];exact λ_ _=>rfl
 simp only[all_cons,all_nil,Bool.and_true,and_eq_true];exact⟨Pj o.1,h,rfl⟩
theorem MY(l:List FM.Ol):cM (.list (l.map ao)) (.list [])=some (.bool (decide (l=[]))):=by
 have hk:kqdOk 9 (.list (l.map ao))=true:=by
  show(l.map ao).all (kqdOk 8)=true;rw[all_map,all_eq_true];exact λo _=>Se o
 unfold cM;rw[wm hk rfl (λb h=>by cases h) (λb h=>by cases h)];cases l with
 |nil=>rw[map_nil,lB rfl];rfl
 |cons o l=>rw[lC (λz=>by cases z)];rfl
theorem SF(q:Rat):cM (qD q) (.tuple [.int 0,.int 1])=some (.bool (decide (q=0))):=pJ q 0
abbrev UL (F:List Dat->List Dat->Option (Dat×List Dat)):Prop:=∀(r:R) (m:Nat),dC r->m<=3->∃(os:List FM.Ol) (r':R),F (rD r) [.int (m:Int)]=some (.list (os.map ao),rD r')/\dC r'/\os.length<=8/\(∀o∈os,lI m o)/\∀y:List Rat,¬ ∀o∈os,FM.bE o y
theorem Yh{β:Type}{Q:α->β->Prop}(h:∃a:α×β,Q a.1 a.2):∃x y,Q x y:=by
 obtain⟨⟨x,y⟩,q⟩:=h;exact⟨x,y,q⟩
theorem addW(g:α->Dat)(a b:List α)(h:a.length+b.length<=1000):jN (.list (a.map g)) (.list (b.map g))=some (.list ((a++b).map g)):=by
 show(if(a.map g).length+(b.map g).length<=sizeLine then some (Dat.list (a.map g++b.map g))else none)=_;rw[if_pos (by rw[length_map,length_map];exact sz h),map_append]
theorem Qd{aW:List (Option Nat)}{ft:ar->Option Bool}{fe:ar->Option Dat}{fi:ar->Option Dat}(h:fi ρ=some d)(hi:cI d=some ds)(hl:ds.length<sizeLine)(hc:bV gt ft fe (dm aW ρ) ds=some out):fL (ky aW gt ft fe fi) ρ=some (.list out):=by
 unfold fL ky;rw[h,Option.bind_some,hi,Option.bind_some,if_pos hl,hc];rfl
theorem H9{fe:HF}{hI:aw->Option (List Dat×aw)}(hf:hI Γ=some (ak,Γ1))(h0:Γ1[i]?=some (some (.own ds)))(hl:ak.length<sizeLine)(hc:kA gt fe (km (dm cA (bj Γ1))) ak ds=some (out,cU)):v8 i cA gt fe hI Γ=some (out,Γ1.set i (some (.own cU))):=by
 unfold v8;rw[hf,Option.bind_some];show(match (Γ1[i]? : Option (Option Slot))with|some (some (.own ds))=>_|_=>_)=_
 rw[h0];show(if ak.length<sizeLine then _ else none)=_;rw[if_pos hl,hc];rfl
variable {fa:ar->Option Dat}
theorem MV{hb:aw->Option (List Dat×aw)}{a:Dat}(ha:fa (bj Γ)=some a)(A7:hb Γ=some (out,af))(h:jN a (.list out)=some d):oX (L3.h2 jN (iL fa) (hL hb)) Γ=some (.rm d af):=by
 unfold oX L3.h2 iL hL;rw[ha];show Option.map _ ((some (a,Γ)).bind λp=>_)=_;rw[Option.bind_some];show Option.map _ (((hb Γ).map λp=>(Dat.list p.1,p.2)).bind λr=>(jN a r.1).map λd=>(d,r.2))=_;rw[A7];show Option.map _ ((jN a (.list out)).map λd=>(d,af))=_;rw[h];rfl
theorem Ul{op:Dat->Dat->Option Dat}{fb:ar->Option Dat}{a b:Dat}(ha:fa ρ=some a)(hb:fb ρ=some b)(h:op a b=some d):L3.f2 op fa fb ρ=some d:=by
 unfold L3.f2;rw[ha,hb];exact h
theorem BF{c:Bool}(h:fa ρ=some (.bool c)):bS fa ρ=some c:=by
 unfold bS;rw[h];rfl
theorem Pk(k:FM.Kn):cM (.str (bw k)) (.str "<")=some (.bool (decide (k=.lt))):=by cases k<;>rfl
theorem HC(T:TX P K mg){Fb Ik:List Dat->List Dat->Option (Dat×List Dat)}(wR:fM P w K mg base 44 "_law_base" ["reel","many"] 2 Fb)(hB:RE Fb)(cg:fM P w K mg base 44 "_law_take" ["reel","many"] 2 ik)(wO:fM P w K mg base 44 "_law_last" ["reel","others","many","by"] 4 Ik)(hL:Rp Ik)(oN:fM P w K mg base 44 "_law_line" ["reel","many","great"] 3 ip)(U:FnAt K mg "_law_nowhere" (top 63) ["reel","many"]):
  ∃F,fM P w K mg base 45 "_law_nowhere" ["reel","many"] 2 F/\UL F:=by
 refine⟨_,ye ["reel","many","point","others","by","kind","less","more","at"] U λnd _ _ _ _ _ _ _ hr=>(ae (jU (bK 0 wR hr (aH (aD (a5 1)) aY)) (c8 (n:=2) rfl (aI (aq 2 nd) (aI (aq 3 nd) bQ))))
  (ae (dQ 4 nd (ot (aD (eC (a6 (aX (k:=0) (a6 a8 (a6 a8 a9))) (a6 (aX (k:=0) (a6 (dw a8) (a6 a8 a9) (hs:=gQ))) (a6 (aX (k:=0) (a6 (dw a8) (a6 a8 a9) (hs:=gQ))) a9 (hs:=cJ)) (hs:=cJ)) (hs:=cJ)))) (bK 0 cg hr (aH (aD a8) aY))))
  (ae (dQ 5 nd (ot (aD (eC (a6 aT (a6 aT a9)))) (bK 0 cg hr (aH (aD a8) aY))))
  (ae (bc (cD (fT (cy hr (a5 4) (aX (k:=0) (a6 a8 (a6 a8 a9)))) (f6 (cy hr (cE (gn rfl (j4 (N':=["other"])) (a5 3) (λ_ _ _ _=>(aq 0 (show(["other"]:List Str).Nodup by decide +kernel))) (λ_ _ _ _=>(jS (cy hr (aj (a5 0) a8) aT))) (λ_ _ _ _=>(a5 0)) (cV rfl))) (eC a9))))) (ag (aC 5 nd aT)) aV)
  (ae (jU (bK 0 wO hr (aH (aD (a5 3)) (aH (aD (a5 1)) (aH (aD (a5 4)) aY)))) (c8 (n:=2) rfl (aI (aq 6 nd) (aI (aq 7 nd) bQ))))
  (ae (dQ 8 nd (bK 0 cg hr (aH (aD (eI (cX T.len (a6 (a5 3) a9)) a8)) aY (hst:=cC))))
  (ae (aC 3 nd (iU (iU (hG (a5 3) iS (iR (a5 8))) (eC (a6 (aX (k:=0) (a6 (a5 5) (a6 (a5 6) (a6 (a5 7) a9)))) a9 (hs:=cJ)))) (hG (a5 3) (iR (a5 8)) iS)))
  (ag (fH (IM (aD (a5 3)) (tv (DS 0 rfl (pM (tn:=["k"]) (fv:=["reel","many"]) (js:=[0,1]) rfl (by decide +kernel) (by decide +kernel) rfl (by decide +kernel) (by decide +kernel) rfl
   (λx hx=>by((have eh:x="reel"\/x="many":=(by simpa using hx));(rcases eh with rfl|rfl<;>exact⟨_,rfl⟩)))
   (λp hp=>by((have fc:p=(("reel" : Str),(0:Nat))\/p=(("many" : Str),(1:Nat)):=(by simpa using hp));(rcases fc with rfl|rfl<;>exact⟨rfl,.inr (.inl rfl),.inl rfl,λz=>by cases z⟩)))) (sI T.range (aH (bK 0 cg hr (aH (aD a8) aY)) aY (hst:=aZ))) (λ_ _ _ _=>(aq 2 (show(["reel","many","k"]:List Str).Nodup by decide +kernel))) (λ_ _ _ _=>(bK 0 oN hr (aH (aD (a5 1)) (aH (aD cZ) aY)))) (cV rfl))))))))))))),?_⟩
 intro r m hR hm;have z0:0<=sizeLine:=zero_le _;have z1:1<=sizeLine:=sz (by decide);have z2:2<=sizeLine:=sz (by decide);have z3:3<=sizeLine:=sz (by decide);refine Yh (wp_runM (λa:List FM.Ol×R=>.list (a.1.map ao)) (λa=>rD a.2) (λa=>dC a.2/\a.1.length<=8/\(∀o∈a.1,lI m o)/\∀y:List Rat,¬ ∀o∈a.1,FM.bE o y) ?_);show WP (du _ _ [some (.own (rD r)),~~~.int (m:Int),none,none,none,none,none,none,none]) _;obtain⟨x,os,r1,eB,R1,xl,sx,o1,o5,fW⟩:=hB r m hR hm;have Cw:∀o∈os,sX m o:=λo ho=>(fW o ho).1;have hlen:∀o∈os,o.2.1.length=m:=λo ho=>(Cw o ho).1;have Yw:∀r:R,dC r->∃(o:FM.Ol) (r':R),ip (rD r) [.int (m:Int),.bool false]=some (ao o,rD r')/\dC r'/\rG 5 m o:=λr hr=>tJ hr (by omega);refine wp_seq (Γ1:=[some (.own (rD r1)),~~~.int (m:Int),~~~(aR x),~~~.list (os.map ao),none,none,none,none,none]) (by simp![eB]) ?_;have f3:=cx (m:=3) R1 (by decide) (by decide);have b3:=dH r1 (m:=3) (by decide);have R2:=dE (m:=3) R1;generalize tk r1 3=t3 at f3 b3;generalize tr r1 3=r2 at f3 R2;obtain⟨b,eb,sb,hb⟩:=YD b3;refine wp_seq (Γ1:=[some (.own (rD r2)),~~~.int (m:Int),~~~(aR x),~~~.list (os.map ao),~~~(qD b),none,none,none,none]) (by dsimp![z2,z3,f3,eb]) ?_;have f2:=cx (m:=2) R2 (by decide) (by decide);have b2:=dH r2 (m:=2) (by decide);have R3:=dE (m:=2) R2;generalize tk r2 2=t2 at f2 b2;generalize tr r2 2=r3 at f2 R3;obtain⟨k,ek,hk⟩:=Tq b2;refine wp_seq (Γ1:=[some (.own (rD r3)),~~~.int (m:Int),~~~(aR x),~~~.list (os.map ao),~~~(qD b),~~~.str (bw k),none,none,none]) (by dsimp![z2,f2,ek]) ?_;refine wp_seqx (λΓ=>∃k':FM.Kn,k'≠.eq/\(b<0\/(b=0/\(k'=.lt\/∃o∈os,o.1=.lt)))/\Γ=[some (.own (rD r3)),~~~.int (m:Int),~~~(aR x),~~~.list (os.map ao),~~~(qD b),~~~.str (bw k'),none,none,none]) ?_ ?_
 ·have e0:=SF b;have zo:os.length<sizeLine:=lt_of_lt_of_le (show os.length<1000 by omega) (sz (by decide));rcases hb with hb|hb
  ·rw[decide_eq_true hb]at e0;have ef:=MY (os.filter λo=>decide (o.1=.lt));have et:bS (L3.f2 cM (aN 4) (kx (bh (fC (.int 0)) (bh (fC (.int 1)) cG)))) (c7 [some (.own (rD r3)),~~~.int (m:Int),~~~(aR x),~~~.list (os.map ao),~~~(qD b),~~~.str (bw k),none,none,none])=some true:=by
    generalize Dat.list (os.map ao)=Hy;dsimp![z2,e0]
   have ec:∀(aW:List (Option Nat)) (kI:ar),dm aW (c7 [some (.own (rD r3)),~~~.int (m:Int),~~~(aR x),~~~.list (os.map ao),~~~(qD b),~~~.str (bw k),none,none,none])=kI->kI=[none]->fL (ky aW (aName 0) (bS (L3.f2 cM (L3.f2 bA (aN 0) (fC (.int 0))) (fC (.str "<")))) (aN 0) (aN 3)) (c7 [some (.own (rD r3)),~~~.int (m:Int),~~~(aR x),~~~.list (os.map ao),~~~(qD b),~~~.str (bw k),none,none,none])=some (.list ((os.filter λo=>decide (o.1=.lt)).map ao)):=by
    intro aW kI h1 h2;refine Qd (d:=.list (os.map ao)) rfl rfl (by rw[length_map];exact zo) ?_;rw[h1,h2];refine i9 ao ao _ os λo ho=>⟨[(0,ao o)],rfl,?_,λ_=>rfl⟩;have e1:=Pk o.1;dsimp![bA,R0,e1]
   by_cases cf:(os.filter λo=>decide (o.1=.lt))=[]
   ·rw[decide_eq_true cf]at ef;refine⟨_,(nt ?_).trans (kP (d:=.str (bw .lt)) rfl),.lt,by decide,.inr ⟨hb,.inl rfl⟩,rfl⟩;exact sj et (BF (Ul (ec _ _ rfl rfl) (by dsimp![z0]) ef))
   ·rw[decide_eq_false cf]at ef;obtain⟨o,ho⟩:=List.exists_mem_of_ne_nil _ cf;have nH:=mem_filter.mp ho;refine⟨_,(nv ?_).trans rfl,k,hk,.inr ⟨hb,.inr ⟨o,nH.1,of_decide_eq_true nH.2⟩⟩,rfl⟩;exact sj et (BF (Ul (ec _ _ rfl rfl) (by dsimp![z0]) ef))
  ·have U0:b≠0:=by intro z;subst z;exact absurd hb (by decide)
   rw[decide_eq_false U0]at e0;refine⟨_,(nv ?_).trans rfl,k,hk,.inl hb,rfl⟩;generalize Dat.list (os.map ao)=Hy;dsimp![z2,e0]
 ·rintro Γ ⟨k',kr,Xx,rfl⟩;obtain⟨ws,r4,eL,R4,wl,NO,sp,sB,pl⟩:=hL r3 os m b R3 hm (by omega) Cw sb;have qT:=λy:List Rat=>OX (y:=y) (m:=m) (os:=os) (ws:=ws) (k:=k') (b:=b) hlen wl NO kr Xx;have XO:lI m (k',(iH m os ws).map (λq=>0-q),0-k7 m os ws+b):=by
   refine⟨by show((iH m os ws).map _).length=m;rw[length_map];exact pl,λq hq=>?_,((gx sB).add sb).up (by decide)⟩;obtain⟨q',pV,rfl⟩:=mem_map.mp hq;exact(gx (sp q' pV)).up (by decide)
  generalize (iH m os ws).map (λq=>0-q)=pn at *;generalize 0-k7 m os ws+b=bn at *;refine wp_seq (Γ1:=[some (.own (rD r4)),~~~.int (m:Int),~~~(aR x),~~~.list (os.map ao),~~~(qD b),~~~.str (bw k'),~~~(aR pn),~~~(qD bn),none]) (by simp![eL]) ?_;have ll:=jc ao os;have fn:=cx (m:=(os.length:Int)+1) R4 (by omega) (by
   have:(os.length:Int)+1<=6:=by omega
   exact Int.lt_of_le_of_lt this (by decide))
  have YF:=dH r4 (m:=(os.length:Int)+1) (by omega);have R5:=dE (m:=(os.length:Int)+1) R4;generalize tk r4 ((os.length:Int)+1)=tn at fn YF;generalize tr r4 ((os.length:Int)+1)=r5 at fn R5;obtain⟨t,rfl⟩:∃t:Nat,tn=(t:Int):=⟨tn.toNat,by omega⟩;refine wp_seq (Γ1:=[some (.own (rD r5)),~~~.int (m:Int),~~~(aR x),~~~.list (os.map ao),~~~(qD b),~~~.str (bw k'),~~~(aR pn),~~~(qD bn),~~~(nat t)]) (by simp![ll,c9,fn]) ?_;have s1:uv (.list (os.map ao)) none (some (t:Int))=some (.list ((os.take t).map ao)):=by
   show some (Dat.list (L3.cutD (os.map ao) none (some (t:Int))))=_;rw[HK,map_take]
  have s2:uv (.list (os.map ao)) (some (t:Int)) none=some (.list ((os.drop t).map ao)):=by
   show some (Dat.list (L3.cutD (os.map ao) (some (t:Int)) none))=_;rw[QP,List.map_drop]
  have l1:(os.take t).length<=5:=by rw[length_take];omega
  have l2:(os.drop t).length<=5:=by rw[length_drop];omega
  have lt:(os.take t).length+(os.drop t).length=os.length:=by rw[length_take,length_drop];omega
  have a1:jN (.list ((os.take t).map ao)) (.list [ao (k',pn,bn)])=some (.list ((os.take t++[(k',pn,bn)]).map ao)):=addW ao (os.take t) [(k',pn,bn)] (by show _+1<=1000;omega);have a2:=addW ao (os.take t++[(k',pn,bn)]) (os.drop t) (by rw[length_append];show(os.take t).length+1+(os.drop t).length<=1000;omega);have Jn:∀y:List Rat,(∀o∈os.take t++[(k',pn,bn)]++os.drop t,FM.bE o y)->False:=λy hy=>qT y (λo ho=>by
   rw[<- List.take_append_drop t os]at ho;rcases mem_append.mp ho with h|h
   ·exact hy o (mem_append_left _ (mem_append_left _ h))
   ·exact hy o (mem_append_right _ h)) (hy _ (mem_append_left _ (mem_append_right _ (mem_singleton.mpr rfl))))
  have mS:∀o∈os.take t++[(k',pn,bn)]++os.drop t,lI m o:=λo ho=>by
   rcases mem_append.mp ho with h|h
   ·rcases mem_append.mp h with h|h
    ·exact OS (Cw o (List.mem_of_mem_take h))
    ·rw[mem_singleton.mp h];exact XO
   ·exact OS (Cw o (List.mem_of_mem_drop h))
  have hlenN:(os.take t++[(k',pn,bn)]++os.drop t).length<=6:=by rw[length_append,length_append];show(os.take t).length+1+(os.drop t).length<=6;omega
  have eo:ao (k',pn,bn)=.tuple [.str (bw k'),aR pn,qD bn]:=rfl;refine wp_seq (Γ1:=[some (.own (rD r5)),~~~.int (m:Int),~~~(aR x),~~~.list ((os.take t++[(k',pn,bn)]++os.drop t).map ao),~~~(qD b),~~~.str (bw k'),~~~(aR pn),~~~(qD bn),~~~(nat t)]) ?_ ?_
  ·rw[eo]at a1;generalize Dat.list ((os.take t++[(k',pn,bn)]++os.drop t).map ao)=d1 at *;generalize Dat.list ((os.take t++[(k',pn,bn)]).map ao)=d2 at *;generalize Dat.list ((os.take t).map ao)=d3 at *;generalize Dat.list ((os.drop t).map ao)=d4 at *;generalize Dat.list (os.map ao)=d5 at *;simp![pH,nD,nC,qb,s1,s2,z1,z3,a1,a2]
  generalize os.take t++[(k',pn,bn)]++os.drop t=fU at *;have Qe:=cx (m:=3) R5 (by decide) (by decide);have YG:=dH r5 (m:=3) (by decide);have R6:=dE (m:=3) R5;generalize tk r5 3=u3 at Qe YG;generalize tr r5 3=r6 at Qe R6;obtain⟨n,rfl⟩:∃n:Nat,u3=(n:Int):=⟨u3.toNat,by omega⟩;obtain⟨ls,r7,ec,R7,WU,Xk⟩:=sC (gt:=aName 2) (fe:=pE 0 3 ip (jf (iL (aN 1)) (jf (iL (fC (.bool false))) mT))) (tl:=[~~~.int (m:Int),none]) ao (rG 5 m) ((range' 0 n).map nat) (λd _ r hr=>by
   obtain⟨o,r',e,cP,hq⟩:=Yw r hr;refine⟨[(2,d)],rfl,o,r',[~~~.int (m:Int),~~~d],?_,cP,hq⟩;simp![e]) r6 R6
  rw[length_map,length_range']at WU;have a3:=addW ao fU ls (by omega);refine⟨_,MV (a:=.list (fU.map ao)) (out:=ls.map ao) (af:=[some (.own (rD r7)),~~~.int (m:Int),~~~(aR x),~~~.list (fU.map ao),~~~(qD b),~~~.str (bw k'),~~~(aR pn),~~~(qD bn),~~~(nat t)]) rfl (H9 (ds:=rD r6) (Γ1:=[some (.own (rD r6)),~~~.int (m:Int),~~~(aR x),~~~.list (fU.map ao),~~~(qD b),~~~.str (bw k'),~~~(aR pn),~~~(qD bn),~~~(nat t)]) (CD (as:=[.int (n:Int)]) ?_ (Oh (by omega))) rfl ?_ ec) a3,(fU++ls,r7),_,rfl,rfl,R7,?_,?_,?_⟩
  ·simp![Qe]
  ·rw[length_map,length_range'];exact lt_of_lt_of_le (show n<1000 by omega) (sz (by decide))
  ·show(fU++ls).length<=8;rw[length_append];omega
  ·intro o ho;rcases mem_append.mp ho with h|h
   ·exact mS o h
   ·have:=Xk o h;exact⟨this.1,λq hq=>(this.2.1 q hq).up (by decide),this.2.2.up (by decide)⟩
  ·intro y hy;exact Jn y λo ho=>hy o (mem_append_left _ ho)
abbrev Uy (F:List Dat->List Dat->Option (Dat×List Dat)):Prop:=∀(r:R) (m:Nat),dC r->m<=3->∃(os:List FM.Ol) (x:List Rat) (r':R),F (rD r) [.int (m:Int)]=some (.tuple [.list (os.map ao),aR x],rD r')/\dC r'/\os.length<=6/\(∀o∈os,lI m o)/\x.length=m/\∀o∈os,FM.bE o x
theorem LF{gt:Dat->Option cN}{fe:ar->Option Dat}{kI:ar}{β:Type}(enc tQ:β->Dat):∀(l:List β),(∀x∈l,∃as,gt (enc x)=some as/\fe (jE kI as)=some (tQ x))->bV gt fk fe kI (l.map enc)=some (l.map tQ)
 |[],_=>rfl
 |x::l,h=>by
  obtain⟨as,e1,e2⟩:=h x mem_cons_self;have ih:=LF enc tQ l λy hy=>h y (mem_cons_of_mem _ hy);simp only[map_cons,bV,e1,Option.bind_some,fk,if_true,e2,ih,map_some]
theorem Od{ft:aw->Option (Bool×aw)}(h:ft Γ=some (true,af)):tj ft g1 g2 Γ=g1 af:=by unfold tj;rw[h];rfl
theorem Oe{ft:aw->Option (Bool×aw)}(h:ft Γ=some (false,af)):tj ft g1 g2 Γ=g2 af:=by unfold tj;rw[h];rfl
theorem Ba(T:TX P K mg){Fb Ik:List Dat->List Dat->Option (Dat×List Dat)}(wR:fM P w K mg base 44 "_law_base" ["reel","many"] 2 Fb)(hB:RE Fb)(cg:fM P w K mg base 44 "_law_take" ["reel","many"] 2 ik)(wO:fM P w K mg base 44 "_law_last" ["reel","others","many","by"] 4 Ik)(hL:Rp Ik)(oM:Dn P w K mg base 44 "_law_sum" ["parts","point"] 2 Fs)(hS:LM Fs)(U:FnAt K mg "_law_somewhere" (top 64) ["reel","many"]):
  ∃F,fM P w K mg base 45 "_law_somewhere" ["reel","many"] 2 F/\Uy F:=by
 refine⟨_,ye ["reel","many","point","others","less","more","there"] U λnd _ _ _ _ _ _ _ hr=>(ae (jU (bK 0 wR hr (aH (aD (a5 1)) aY)) (c8 (n:=2) rfl (aI (aq 2 nd) (aI (aq 3 nd) bQ))))
  (ae (IK (Mi hr (bK 0 cg hr (aH (aD a8) aY)) (aD a8)) (ag (p0 3 nd rfl (fw (tn:=["kind","parts","bound"]) (fv:=["point"]) (js:=[2]) rfl (by decide +kernel) (by decide +kernel) rfl (by decide +kernel) (by decide +kernel) rfl
   (λx hx=>by((have eh:x="point":=(by simpa using hx));(rcases eh with rfl<;>exact⟨_,rfl⟩)))
   (λp hp=>by((have fc:p=(("point" : Str),(2:Nat)):=(by simpa using hp));(rcases fc with rfl<;>exact⟨rfl,.inr (.inl rfl),.inl rfl,λz=>by cases z⟩)))) (tq (a5 3)) (λ_ _ _ _=>(c8 (n:=3) rfl (aI (aq 0 (show(["kind","parts","bound","point"]:List Str).Nodup by decide +kernel)) (aI (aq 1 (show(["kind","parts","bound","point"]:List Str).Nodup by decide +kernel)) (aI (aq 2 (show(["kind","parts","bound","point"]:List Str).Nodup by decide +kernel)) bQ))))) (λ_ _ _ _=>d9) (λ_ _ _ _=>(aX (k:=0) (a6 aT (a6 (a5 1) (a6 (ay oM hr (a6 (a5 1) (a6 (a5 3) a9))) a9 (hs:=aZ)))))) (Iw rfl rfl rfl))) aV)
  (ae (jU (bK 0 wO hr (aH (aD (a5 3)) (aH (aD (a5 1)) (aH (aD (aX (k:=0) (a6 a8 (a6 a8 a9)))) aY (hst:=cJ))))) (c8 (n:=2) rfl (aI (aq 4 nd) (aI (aq 5 nd) bQ))))
  (ae (aC 6 nd (ay oM hr (a6 (a5 4) (a6 (a5 2) a9))))
  (ag (fH (aD (aX (k:=0) (a6 (iU (a5 3) (eC (a6 (aX (k:=0) (a6 aT (a6 (a5 4) (a6 (a5 6) a9)))) a9 (hs:=cJ)))) (a6 (a5 2) a9) (hs:=cC)))))))))),?_⟩
 intro r m hR hm;have z1:1<=sizeLine:=sz (by decide);have z2:2<=sizeLine:=sz (by decide);have z3:3<=sizeLine:=sz (by decide);refine Uo (wp_runM (λa:List FM.Ol×List Rat×R=>.tuple [.list (a.1.map ao),aR a.2.1]) (λa=>rD a.2.2) (λa=>dC a.2.2/\a.1.length<=6/\(∀o∈a.1,lI m o)/\a.2.1.length=m/\∀o∈a.1,FM.bE o a.2.1) ?_);show WP (du _ _ [some (.own (rD r)),~~~.int (m:Int),none,none,none,none,none]) _;obtain⟨x,os,r1,eB,R1,xl,sx,o1,o5,fW⟩:=hB r m hR hm;refine wp_seq (Γ1:=[some (.own (rD r1)),~~~.int (m:Int),~~~(aR x),~~~.list (os.map ao),none,none,none]) (by simp![eB]) ?_;have f2:=cx (m:=2) R1 (by decide) (by decide);have R2:=dE (m:=2) R1;generalize tk r1 2=t2 at f2;generalize tr r1 2=r2 at f2 R2;have zo:os.length<sizeLine:=lt_of_lt_of_le (show os.length<1000 by omega) (sz (by decide));refine wp_seqx (λΓ=>∃fU:List FM.Ol,fU.length<=5/\(∀o∈fU,sX m o/\FM.bE o x)/\Γ=[some (.own (rD r2)),~~~.int (m:Int),~~~(aR x),~~~.list (fU.map ao),none,none,none]) ?_ ?_
 ·by_cases c:t2=0
  ·refine⟨_,(Od (af:=[some (.own (rD r2)),~~~.int (m:Int),~~~(aR x),~~~.list (os.map ao),none,none,none]) (by simp![f2,fq,eq_true c])).trans ?_,os.map λo=>(FM.Kn.le,o.2.1,FM.aB o.2.1 x),by rw[length_map];exact o5,?_,rfl⟩
   ·have SH:∀(aW:List (Option Nat)) (gt:Dat->Option cN) (fe:ar->Option Dat),(∀o∈os,∃as,gt (ao o)=some as/\fe (jE (dm aW (bj [some (.own (rD r2)),~~~.int (m:Int),~~~(aR x),~~~.list (os.map ao),none,none,none])) as)=some (ao (FM.Kn.le,o.2.1,FM.aB o.2.1 x)))->lV 3 (fB aW gt fk fe (xA (aN 3))) [some (.own (rD r2)),~~~.int (m:Int),~~~(aR x),~~~.list (os.map ao),none,none,none]=some (.nx [some (.own (rD r2)),~~~.int (m:Int),~~~(aR x),~~~.list ((os.map λo=>(FM.Kn.le,o.2.1,FM.aB o.2.1 x)).map ao),none,none,none]):=by
     intro aW gt fe h;have e:fB aW gt fk fe (xA (aN 3)) (bj [some (.own (rD r2)),~~~.int (m:Int),~~~(aR x),~~~.list (os.map ao),none,none,none])=some (os.map λo=>ao (FM.Kn.le,o.2.1,FM.aB o.2.1 x)):=by
      unfold fB;rw[show xA (aN 3) (bj [some (.own (rD r2)),~~~.int (m:Int),~~~(aR x),~~~.list (os.map ao),none,none,none])=some (os.map ao)from rfl,Option.bind_some,if_pos (by rw[length_map];exact zo)];exact LF ao _ os h
     unfold lV;rw[e,map_map];rfl
    refine SH _ _ _ λo ho=>⟨_,rfl,?_⟩;obtain⟨hI,_⟩:=IA ((fW o ho).1.1) ((fW o ho).1.2.1) xl hm sx;have es:=hS 5 5 o.2.1 x hI;generalize FM.aB o.2.1 x=wx at es;have ek:bw .le="<=":=rfl;simp![es,z3,ek];rfl
   ·intro o ho;obtain⟨q,hq,rfl⟩:=mem_map.mp ho;obtain⟨_,ss⟩:=IA ((fW q hq).1.1) ((fW q hq).1.2.1) xl hm sx;refine⟨⟨(fW q hq).1.1,(fW q hq).1.2.1,ss.up (by decide)⟩,?_⟩;show FM.aB q.2.1 x<=FM.aB q.2.1 x;exact Rat.le_refl
  ·exact⟨_,(Oe (af:=[some (.own (rD r2)),~~~.int (m:Int),~~~(aR x),~~~.list (os.map ao),none,none,none]) (by simp![f2,fq,eq_false c])).trans rfl,os,o5,λo ho=>⟨(fW o ho).1,(fW o ho).2.1⟩,rfl⟩
 ·rintro Γ ⟨fU,l5,Jo,rfl⟩;obtain⟨ws,r3,eL,R3,wl,NO,sp,sB,pl⟩:=hL r2 fU m 0 R2 hm l5 (λo ho=>(Jo o ho).1) (kf (by decide));have q0:(.tuple [.int 0,.int 1]:Dat)=qD 0:=rfl;have dO:((iH m fU ws).map (λq=>0-q)).length=m:=by rw[length_map];exact pl
  have Tz:∀q∈(iH m fU ws).map (λq=>0-q),SR 260 q:=λq hq=>by
   obtain⟨q',pV,rfl⟩:=mem_map.mp hq;exact gx (sp q' pV)
  generalize (iH m fU ws).map (λq=>0-q)=pn at *;generalize 0-k7 m fU ws+0=bn at *;refine wp_seq (Γ1:=[some (.own (rD r3)),~~~.int (m:Int),~~~(aR x),~~~.list (fU.map ao),~~~(aR pn),~~~(qD bn),none]) (by simp![z2,q0,eL]) ?_;have hI:AU 260 5 pn x:=⟨by omega,Tz,sx,by rw[dO];show 1+m*266<=_;omega,by decide⟩;have es:=hS 260 5 pn x hI;have ss:SR 1000 (FM.aB pn x):=(F4 hI).up (by rw[dO];show 1+m*266<=_;omega);have hh:FM.bE (FM.Kn.le,pn,FM.aB pn x) x:=by show FM.aB pn x<=FM.aB pn x;exact Rat.le_refl
  generalize FM.aB pn x=wx at *;refine wp_seq (Γ1:=[some (.own (rD r3)),~~~.int (m:Int),~~~(aR x),~~~.list (fU.map ao),~~~(aR pn),~~~(qD bn),~~~(qD wx)]) (by simp![es]) ?_;have a1:jN (.list (fU.map ao)) (.list [.tuple [.str "<=",aR pn,qD wx]])=some (.list ((fU++[(FM.Kn.le,pn,wx)]).map ao)):=addW ao fU [(FM.Kn.le,pn,wx)] (by show fU.length+1<=1000;omega);refine⟨.rm (.tuple [.list ((fU++[(FM.Kn.le,pn,wx)]).map ao),aR x]) [some (.own (rD r3)),~~~.int (m:Int),~~~(aR x),~~~.list (fU.map ao),~~~(aR pn),~~~(qD bn),~~~(qD wx)],?_,(fU++[(FM.Kn.le,pn,wx)],x,r3),_,rfl,rfl,R3,?_,?_,xl,?_⟩
  ·generalize Dat.list ((fU++[(FM.Kn.le,pn,wx)]).map ao)=d1 at *;generalize Dat.list (fU.map ao)=d2 at *;simp![z1,z2,z3,a1]
  ·show(fU++[(FM.Kn.le,pn,wx)]).length<=6;rw[length_append];show fU.length+1<=6;omega
  ·intro o ho;rcases mem_append.mp ho with h|h
   ·exact OS (Jo o h).1
   ·rw[mem_singleton.mp h];exact⟨dO,λq hq=>(Tz q hq).up (by decide),ss⟩
  ·intro o ho;rcases mem_append.mp ho with h|h
   ·exact(Jo o h).2
   ·rw[mem_singleton.mp h];exact hh
theorem QU(hF:Ru Ff)(hT:Rc Ft)(hn:n<=3)(ho:lI n o)(fW:∀q∈os,lI n q)(hk:os.length<=13):∃fo:Dat,Ff [ao o,.list (os.map ao)]=some fo/\Ft [ao o,.list (os.map ao),fo]=some (.bool true)/\bA fo (.int 0)=some (.str (if qZ o os=true then "follows" else "breaks")):=by
 obtain⟨Q8,hb⟩:=QV hn ho fW hk;exact⟨_,hF 1000 2000 o os Q8.ln hb,hT 1000 2000 o os Q8 hb,Wb o os⟩
theorem LZ(n:Nat)(x:List Rat):FM.aB (List.replicate n 0) x=0:=FM.gh λi _=>by
 have e:(List.replicate n (0:Rat)).getD i 0=0:=by
  rw[getD_eq_getElem?_getD,getElem?_replicate];by_cases h:i<n
  ·rw[if_pos h];rfl
  ·rw[if_neg h];rfl
 rw[e,Rat.zero_mul]
theorem RG(n:Nat)(h:n<=3):yQ (.tuple [.tuple [.int 0,.int 1]]) (.int n)=some (aR (List.replicate n 0)):=by
 rw[IH _ n (by omega) (sz (by decide))];show _=some (Dat.tuple ((List.replicate n (0:Rat)).map qD));rw[List.map_replicate];rfl
theorem NL{k:FM.Kn}{b:Rat}(h:SR 10 b):lI n (k,List.replicate n 0,b):=⟨length_replicate,λq hq=>by rw[(mem_replicate.mp hq).2];exact kf (by decide),h.up (by decide)⟩
theorem SD{d1 d2:Dat}{as1 as2:cN}{iP:aw}(h1:gt d1=some as1)(h2:gb (setG Γ as1)=some (.nx Γ1))(h3:gt d2=some as2)(h4:gb (setG Γ1 as2)=some (.nx iP))(hI:I iP):∃af,forL gt gb [d1,d2] Γ=some (.nx af)/\I af:=by
 refine⟨iP,?_,hI⟩;show(gt d1).bind _=_;rw[h1];show(gb (setG Γ as1)).bind _=_;rw[h2];show(gt d2).bind _=_;rw[h3];show(gb (setG Γ1 as2)).bind _=_;rw[h4];rfl
def m7:Rat:=⟨-7,1,by decide,by decide⟩
def zE:Rat:=⟨-1,9,by decide,by decide⟩
theorem Si:SR 10 m7:=⟨by decide,by decide⟩
theorem P0:SR 10 zE:=⟨by decide,by decide⟩
theorem MR:¬(0:Rat)<=zE:=by decide
theorem WE{J:aw->Prop}(I:aw->Prop)(h:∃af,g1 Γ=some (.nx af)/\I af)(fin:∀af,I af->∃NI,g2 af=some (.nx NI)/\J NI):∃af,du g1 g2 Γ=some (.nx af)/\J af:=by
 obtain⟨af,e,i⟩:=h;exact j1 e (fin af i)
theorem Yg(h:g Γ=some (.nx af))(hI:I af):∃af,g Γ=some (.nx af)/\I af:=⟨af,h,hI⟩
variable {f:Addr} {fd:FuncData}
theorem SJ(T:TX P K mg){Fn Fs:List Dat->List Dat->Option (Dat×List Dat)}(ND:y0 P w K mg base 51 "_law_reel" ["cell"] 1 Il)(cg:fM P w K mg base 51 "_law_take" ["reel","many"] 2 ik)(oN:fM P w K mg base 51 "_law_line" ["reel","many","great"] 3 ip)(EN:fM P w K mg base 51 "_law_nowhere" ["reel","many"] 2 Fn)(hN:UL Fn)(B1:fM P w K mg base 51 "_law_somewhere" ["reel","many"] 2 Fs)(hS:Uy Fs)(B3:Dn P w K mg base 51 "follows" ["line","others"] 2 Ff)(hF:Ru Ff)(Ds:Dn P w K mg base 51 "_law_told" ["line","others","found"] 3 Ft)(hT:Rc Ft)(U:nM K "law" "law" (top 65) f fd):
  gJ P w K mg base jj 52 f fd ["script"] (F8 K 1 EI):=by
 have nd:(["script","cells","cell","reel","many","others","line","found","point"]:List Str).Nodup:=by decide +kernel
 refine Oy U (N:=["script","cells","cell","reel","many","others","line","found","point"]) ⟨rfl,rfl,rfl,by decide +kernel,rfl,by decide +kernel,by decide +kernel⟩ rfl (λbF A outer s H E hr=>
  (ae (aC 1 nd (hG (a5 0) iS (iR a8)))
  (ae (bc (cy hr (a5 1) (eC a9)) (ag (aC 1 nd (eC (a6 a8 a9)))) aV)
  (ae (dI PassesOwn.never rfl (a5 1) (aq 2 nd)
  (ae (kQ 3 nd (IP ND hr (a6 (a5 2) a9)))
  (ae (dQ 4 nd (bK 3 cg hr (aH (aD a8) aY)))
  (ae (dQ 5 nd (bK 3 EN hr (aH (aD (a5 4)) aY)))
  (ae (xj PassesOwn.never rfl (IL (Mk (aH (bK 3 oN hr (aH (aD (a5 4)) (aH (aD cZ) aY))) (aH (aD (aX (k:=0) (a6 aT (a6 (yT (aX (k:=0) (a6 (aX (k:=0) (a6 a8 (a6 a8 a9))) a9 (hs:=cJ))) (a5 4)) (a6 (aX (k:=0) (a6 (dw a8) (a6 a8 a9) (hs:=gQ))) a9 (hs:=cJ)) (hs:=cC))))) aY (hst:=cJ)) (hst:=aZ)))) (aq 6 nd)
  (ae (aC 7 nd (ay B3 hr (a6 (a5 6) (a6 (cE (ny T.list (a6 (a5 5) a9))) a9 (hs:=aZ)))))
  (ag (bc (cD (cW (dJ (bJ (ay Ds hr (a6 (a5 6) (a6 (a5 5) (a6 (a5 7) a9)))))) (d7 (dg hr (aj (a5 7) a8) aT)))) (ag (ax cZ)) aV))))
  (ae (jU (bK 3 B1 hr (aH (aD (a5 4)) aY)) (c8 (n:=2) rfl (aI (aq 5 nd) (aI (aq 8 nd) bQ))))
  (ae (aC 6 nd (aX (k:=0) (a6 aT (a6 (yT (aX (k:=0) (a6 (aX (k:=0) (a6 a8 (a6 a8 a9))) a9 (hs:=cJ))) (a5 4)) (a6 (aX (k:=0) (a6 (dw a8) (a6 a8 a9) (hs:=gQ))) a9 (hs:=cJ)) (hs:=cC)))))
  (ae (aC 7 nd (ay B3 hr (a6 (a5 6) (a6 (cE (ny T.list (a6 (a5 5) a9))) a9 (hs:=aZ)))))
  (ag (bc (cD (cW (dJ (bJ (ay Ds hr (a6 (a5 6) (a6 (a5 5) (a6 (a5 7) a9)))))) (d7 (dg hr (aj (a5 7) a8) aT)))) (ag (ax cZ)) aV))))))))))
  (ag (ax cZ)))))) ?_
 intro ds d hl Lq;unfold EI at Lq;split at Lq
 ·rename_i h;obtain⟨ns,rfl,h63⟩:=h;cases Lq;have z0:0<=sizeLine:=zero_le _;have z1:1<=sizeLine:=sz (by decide);have z2:2<=sizeLine:=sz (by decide);have z3:3<=sizeLine:=sz (by decide);refine bX ?_;simp!;have s1:uv (.list (ns.map .int)) none (some 10)=some (.list ((ns.take 10).map .int)):=by
   show some (Dat.list (L3.cutD (ns.map Dat.int) none (some ((10:Nat):Int))))=_;rw[HK,map_take]
  have pW:(ns.take 10).length<=63:=by rw[length_take];omega
  generalize ns.take 10=QQ at s1 pW;rw[aA (af:=[~~~.list (ns.map .int),~~~.list (QQ.map .int),none,none,none,none,none,none,none]) (by dsimp![pH,nC,nD,qb,s1])];have hc:∃cs:List Int,∀g2:aw->Option Fl,du (mG (bS (L3.f2 cM (aN 1) (o8 cG))) (iA 1 (o8 (bh (fC (.int 0)) cG))) kg) g2 [~~~.list (ns.map .int),~~~.list (QQ.map .int),none,none,none,none,none,none,none]=g2 [~~~.list (ns.map .int),~~~.list (cs.map .int),none,none,none,none,none,none,none]:=by
   cases QQ with
   |nil=>exact⟨[0],λg2=>by rw[aA (af:=[some (.a7 (.list (ns.map .int))),some (.a7 (.list (([0]:List Int).map .int))),none,none,none,none,none,none,none]) (by dsimp![N0,z0,z1])]⟩
   |cons c cs=>
    refine⟨c::cs,λg2=>?_⟩;have en:=JE c cs (ML (c::cs) pW);rw[aA (af:=[~~~.list (ns.map .int),~~~.list ((c::cs).map .int),none,none,none,none,none,none,none]) (by
     rw[map_cons]at en;dsimp![en,z0])]
  obtain⟨cs,hg⟩:=hc;rw[hg];generalize Dat.list (ns.map .int)=oI;refine gm (I:=λΓ=>∃x2 x3 x4 x5 x6 x7 x8,Γ=[~~~(oI),~~~.list (cs.map .int),x2,x3,x4,x5,x6,x7,x8]) (Qa _ (d:=.list (cs.map .int)) (ds:=cs.map .int) rfl rfl ⟨_,_,_,_,_,_,_,rfl⟩ ?_) ?_
  ·rintro d hd Γ ⟨x2,x3,x4,x5,x6,x7,x8,rfl⟩;obtain⟨c,_,rfl⟩:=mem_map.mp hd;refine M3 (as:=[(2,.int c)]) rfl ?_;dsimp!;generalize Dat.list (cs.map .int)=q8;have er:Il [.int c]=some (rD (Oo c)):=rfl;have hR:=Om c;generalize Oo c=r0 at hR er;have f4:=cx (m:=4) hR (by decide) (by decide);have b4:=dH r0 (m:=4) (by decide);have R1:=dE (m:=4) hR;generalize tk r0 4=t4 at f4 b4;generalize tr r0 4=r1 at f4 R1;obtain⟨n,rfl⟩:∃n:Nat,t4=(n:Int):=⟨t4.toNat,by omega⟩;have hn:n<=3:=by omega
   refine j1 (Γ1:=[~~~(oI),~~~(q8),~~~.int c,some (.own (rD r0)),x4,x5,x6,x7,x8]) (by simp![er]) ?_;refine j1 (Γ1:=[~~~(oI),~~~(q8),~~~.int c,some (.own (rD r1)),~~~.int (n:Int),x5,x6,x7,x8]) (by simp![f4]) ?_;obtain⟨os,r2,eN,R2,l8,fW,qT⟩:=hN r1 n R1 hn;have Yv:Fn [.int r1.1,.int r1.2] [.int (n:Int)]=some (.list (os.map ao),rD r2):=eN;refine j1 (Γ1:=[~~~(oI),~~~(q8),~~~.int c,some (.own (rD r2)),~~~.int (n:Int),~~~.list (os.map ao),x6,x7,x8]) (by simp![Yv]) ?_;obtain⟨o,r3,eL,R3,hL⟩:=tJ R2 (show n<=9 by omega);have Qj:ip [.int r2.1,.int r2.2] [.int (n:Int),.bool false]=some (ao o,rD r3):=eL;have ho:lI n o:=⟨hL.1,λq hq=>(hL.2.1 q hq).up (by decide),hL.2.2.up (by decide)⟩;have JD:=RG n hn;have e7:(Dat.tuple [.str "<",aR (List.replicate n 0),.tuple [.int (-7),.int 1]])=ao (.lt,List.replicate n 0,m7):=rfl;have Ql:(Dat.tuple [.str "<=",aR (List.replicate n 0),.tuple [.int (-1),.int 9]])=ao (.le,List.replicate n 0,zE):=rfl;have PN:lI n (.lt,List.replicate n 0,m7):=NL Si;have Ec:lI n (.le,List.replicate n 0,zE):=NL P0;have Ug:∀x:List Rat,¬FM.bE (.le,List.replicate n 0,zE) x:=λx h=>MR (by
    have h':FM.aB (List.replicate n 0) x<=zE:=h;rwa[LZ]at h')
   have TQ:∀q:FM.Ol,lI n q->qZ q os=true:=λq hq=>(CQ (λp hp=>by rw[(fW p hp).1,hq.1])).mpr λx _ hx=>absurd hx (qT x);generalize (FM.Kn.lt,List.replicate n (0:Rat),m7)=o7 at e7 PN;generalize (FM.Kn.le,List.replicate n (0:Rat),zE)=KQ at Ql Ec Ug;obtain⟨fo,a1,a2,a3⟩:=QU hF hT hn ho fW (by omega);obtain⟨Lw,b1,b2,b3⟩:=QU hF hT hn PN fW (by omega);rw[TQ o ho,if_pos rfl]at a3;rw[TQ o7 PN,if_pos rfl]at b3;have li:sd [.list (os.map ao)]=some (os.map ao):=rfl;generalize aR (List.replicate n 0)=dz at JD e7 Ql;refine WE (λΓ=>Γ=[~~~(oI),~~~(q8),~~~.int c,some (.own (rD r3)),~~~.int (n:Int),~~~.list (os.map ao),~~~(ao o7),~~~(Lw),x8]) (CP (ak:=[ao o,ao o7]) (Γ1:=[~~~(oI),~~~(q8),~~~.int c,some (.own (rD r3)),~~~.int (n:Int),~~~.list (os.map ao),x6,x7,x8]) (by simp![Q4,Ei,Qj,JD,e7,z1,z2,z3]) (SD (as1:=[(6,ao o)]) (as2:=[(6,ao o7)]) (Γ1:=[~~~(oI),~~~(q8),~~~.int c,some (.own (rD r3)),~~~.int (n:Int),~~~.list (os.map ao),~~~(ao o),~~~(fo),x8]) rfl ?_ rfl ?_ rfl)) ?_
   ·dsimp!;generalize ao o=Yy at *;rw[aA (af:=[~~~(oI),~~~(q8),~~~.int c,some (.own (rD r3)),~~~.int (n:Int),~~~.list (os.map ao),~~~(Yy),~~~(fo),x8]) (by dsimp![li,a1])];dsimp![a2,a3,vV]
   ·dsimp!;generalize ao o7=Qm at *;rw[aA (af:=[~~~(oI),~~~(q8),~~~.int c,some (.own (rD r3)),~~~.int (n:Int),~~~.list (os.map ao),~~~(Qm),~~~(Lw),x8]) (by dsimp![li,b1])];dsimp![b2,b3,vV]
   rintro Γ rfl;obtain⟨ps,x,r4,eS,R4,l6,Tx,xl,hx⟩:=hS r3 n R3 hn;have Yt:Fs [.int r3.1,.int r3.2] [.int (n:Int)]=some (.tuple [.list (ps.map ao),aR x],rD r4):=eS;obtain⟨JB,c1,c2,c3⟩:=QU hF hT hn Ec Tx (by omega);have hf:qZ KQ ps=false:=by
    cases hf:qZ KQ ps with
    |false=>rfl
    |true=>exact absurd ((CQ (λq hq=>by rw[(Tx q hq).1,Ec.1])).mp hf x (by rw[Ec.1,xl]) hx) (Ug x)
   rw[hf]at c3;have YC:bA JB (.int 0)=some (.str "breaks"):=c3;have WV:sd [.list (ps.map ao)]=some (ps.map ao):=rfl;generalize aR x=dx at *;generalize ao o7=Qm at *;refine j1 (Γ1:=[~~~(oI),~~~(q8),~~~.int c,some (.own (rD r4)),~~~.int (n:Int),~~~.list (ps.map ao),~~~(Qm),~~~(Lw),~~~(dx)]) (by simp![Yt]) ?_;refine j1 (Γ1:=[~~~(oI),~~~(q8),~~~.int c,some (.own (rD r4)),~~~.int (n:Int),~~~.list (ps.map ao),~~~(ao KQ),~~~(Lw),~~~(dx)]) (by simp![JD,Ql,z1,z2,z3]) ?_;generalize ao KQ=Qn at *;refine j1 (Γ1:=[~~~(oI),~~~(q8),~~~.int c,some (.own (rD r4)),~~~.int (n:Int),~~~.list (ps.map ao),~~~(Qn),~~~(JB),~~~(dx)]) (by dsimp![WV,c1]) ?_;refine Yg (af:=[~~~(oI),~~~(q8),~~~.int c,some (.own (rD r4)),~~~.int (n:Int),~~~.list (ps.map ao),~~~(Qn),~~~(JB),~~~(dx)]) (by dsimp![c2,YC,vV]) ⟨_,_,_,_,_,_,_,rfl⟩
  ·rintro af ⟨x2,x3,x4,x5,x6,x7,x8,rfl⟩;simp![]
 ·cases Lq
theorem all_mk{lw:PySem.W.OpenLaw}{h:Heap}{fa:Addr}{od an:Option Addr}{sl:Array (Option Value)}{oc kV dc pm cd ct:Value}(X:K.In h)(G:h.Ns mainGlobals mg)(Xt:mg "law"=some (.ref fa))(tX:FnAt K mg "common_divisor" (top 1) ["a","b"])(Ra:FnAt K mg "make" (top 2) ["n","d"])(R8:FnAt K mg "plus" (top 3) ["a","b"])(Nz:FnAt K mg "minus" (top 4) ["a","b"])(Nv:FnAt K mg "times" (top 5) ["a","b"])(R9:FnAt K mg "over" (top 6) ["a","b"])(NA:FnAt K mg "below" (top 7) ["a","b"])(HY:FnAt K mg "lowered" (top 12) ["numbers"])(Bf:FnAt K mg "whole_row" (top 13) ["kind","fractions"])(AN:FnAt K mg "first_rows" (top 14) ["parts","others"])(Ny:FnAt K mg "mixed" (top 15) ["one","much","other","more"])(Bk:FnAt K mg "equal_row" (top 16) ["rows","place"])(HX:FnAt K mg "without" (top 17) ["row","equal","place"])(K0:FnAt K mg "joined" (top 18) ["upper","lower","place"])(EB:FnAt K mg "drawn_on" (top 19) ["one","other","weighed"])(JZ:FnAt K mg "paired" (top 20) ["rows","place","weighed","most"])(Bh:FnAt K mg "stages_of" (top 21) ["parts","others"])(Bj:FnAt K mg "left_over" (top 22) ["row","point"])(Ey:FnAt K mg "tightest" (top 23) ["rows","place","point","way"])(K2:FnAt K mg "end_of" (top 24) ["stages","way"])(Bg:FnAt K mg "upper_end" (top 25) ["stages"])(wF:FnAt K mg "opposite_end" (top 26) ["stages"])(EA:FnAt K mg "is_never" (top 27) ["kind","bound"])(tW:FnAt K mg "never_by_a_row" (top 28) ["stages"])(vk:FnAt K mg "never_by_ends" (top 29) ["stages"])(Nw:FnAt K mg "never" (top 30) ["stages"])(Bi:FnAt K mg "number_of" (top 31) ["end"])(rC:FnAt K mg "turned_number_of" (top 32) ["end"])(Ie:FnAt K mg "between" (top 33) ["least","greatest"])(Ez:FnAt K mg "point_of" (top 34) ["stages","number"])(wD:FnAt K mg "point_beyond" (top 35) ["stages","bound"])(K1:FnAt K mg "halves" (top 38) ["line"])(HZ:FnAt K mg "is_kept" (top 39) ["line","kind","bound"])(wG:FnAt K mg "half_follows" (top 40) ["line","others"])(I0:FnAt K mg "follows" (top 41) ["line","others"])(Bn:FnAt K mg "_law_reel" (top 44) ["cell"])(Bm:FnAt K mg "_law_take" (top 45) ["reel","many"])(Bp:FnAt K mg "_law_make" (top 46) ["n","d"])(Bo:FnAt K mg "_law_plus" (top 47) ["a","b"])(AO:FnAt K mg "_law_times" (top 48) ["a","b"])(AS:FnAt K mg "_law_below" (top 49) ["a","b"])(rF:FnAt K mg "_law_is_fraction" (top 50) ["found"])(pP:FnAt K mg "_law_are_fractions" (top 51) ["found","many"])(vn:FnAt K mg "_law_fraction" (top 52) ["reel","great"])(Bq:FnAt K mg "_law_line" (top 53) ["reel","many","great"])(vm:FnAt K mg "_law_together" (top 54) ["others","weights","many"])(AQ:FnAt K mg "_law_right" (top 55) ["kind","parts","bound","others","weights"])(y8:FnAt K mg "_law_turned" (top 56) ["parts","bound"])(rE:FnAt K mg "_law_paper_shows" (top 57) ["line","others","paper"])(EC:FnAt K mg "_law_sum" (top 59) ["parts","point"])(AR:FnAt K mg "_law_holds" (top 60) ["line","point"])(Bl:FnAt K mg "_law_told" (top 58) ["line","others","found"])(Bs:FnAt K mg "_law_base" (top 61) ["reel","many"])(Br:FnAt K mg "_law_last" (top 62) ["reel","others","many","by"])(wH:FnAt K mg "_law_nowhere" (top 63) ["reel","many"])(tY:FnAt K mg "_law_somewhere" (top 64) ["reel","many"])(rA:∃a,TC K mg "ZERO_elimination" [.int (0),.int (1)] a)(SO:∃a,TC K mg "ONE" [.int (1),.int (1)] a)(SN:∃a,TC K mg "TWO" [.int (2),.int (1)] a)(wC:∃a,TC K mg "ZERO_follows" [.int (0),.int (1)] a)(a:nsIn K mainGlobals "law"=some (some (.ref f)))(l:K.lookup f=some ⟨oc,od,.func (fnOf "law" "law" (k6 (top 65)) (dj (top 65)) (bf (top 65)) .none kV dc pm an cd ct),sl⟩)(c:codeIn K cd "law"=true)(k:keepIn K (.ref f)=true)(T:TX lw.prog K mg)
  : ∃fd:FuncData,(∀(s:Shared) (v:Value),BindsTo s fd ⟨[v],[]⟩ [("script",v)])/\∀base:Heap,K.In base->base.Ns mainGlobals mg->gJ lw.prog w K mg base jj 100 fa fd ["script"] (yc K):=by
 have e:=Xt.symm.trans (mg_of X G a);cases e;obtain⟨_,dB⟩:=rA;obtain⟨_,LJ⟩:=SO;obtain⟨_,SM⟩:=SN;obtain⟨_,wB⟩:=wC;refine⟨fnOf "law" "law" (k6 (top 65)) (dj (top 65)) (bf (top 65)) .none kV dc pm an cd ct,λs v=>.of_eq rfl,λbase _ _=>?_⟩;have SQ:=Ag (st:=top 65) l c k;have D1:=Wh (P:=lw.prog) (w:=w) (base:=base) T tX;have D2:=Qx T D1 Ra;have D3:=Qu T D2 R8;have D4:=Ng T D2 Nz;have D5:=N7 T D2 Nv;have D6:=Qv T D2 R9;have D7:=Nr T D2 NA;obtain⟨G8,D8,W7⟩:=HE T D1 HY;obtain⟨G9,D9,XA⟩:=N5 T D1 Bf;obtain⟨G10,Zm,Y6⟩:=Nl T dB LJ (D9.up (by decide)) XA (D4.up (by decide)) AN;obtain⟨G11,Vg,Q5⟩:=Nf T D8 W7 Ny;obtain⟨G12,Zl,Y7⟩:=Nn (P:=lw.prog) (w:=w) (base:=base) T Bk;obtain⟨G13,Zk,Xz⟩:=HB T Vg Q5 HX;obtain⟨G14,Zj,XZ⟩:=JR T Vg Q5 K0;obtain⟨G15,Zi,Y8⟩:=Nq (P:=lw.prog) (w:=w) (base:=base) T EB;obtain⟨G16,Zh,XN⟩:=JL T (Zi.up (by decide)) Y8 (Zj.up (by decide)) XZ JZ;obtain⟨G17,Zg,XD⟩:=JK T (Zm.up (by decide)) Y6 (Zl.up (by decide)) Y7 (Zh.up (by decide)) XN (Zk.up (by decide)) Xz Bh;obtain⟨G18,Zf,XW⟩:=QD T (D4.up (by decide)) (D5.up (by decide)) Bj;obtain⟨G19,Vf,U2⟩:=N8 T (Zf.up (by decide)) XW (D6.up (by decide)) (D7.up (by decide)) (D2.up (by decide)) Ey;obtain⟨G20,Ve,U8⟩:=Np T dB (Vf.up (by decide)) U2 K2;obtain⟨YS,RB,W2⟩:=N6 T (Ve.up (by decide)) Bg;obtain⟨YR,Vd,W6⟩:=Qw T (Ve.up (by decide)) wF;have Q2:AM 1 YS:=λb n m Ls rows h1 h2 h3 h4 h5 h6 h7 h8=>W2 _ _ (U8 b n m Ls rows 1 (.inl rfl) h1 h2 h3 h4 h5 h6 h7 (by omega)).1;have U4:AM (-1) YR:=λb n m Ls rows h1 h2 h3 h4 h5 h6 h7 h8=>W6 _ _ (U8 b n m Ls rows (-1) (.inr rfl) h1 h2 h3 h4 h5 h6 h7 (by omega)).1;obtain⟨G23,Vc,hIn⟩:=HG T dB (D7.up (by decide)) EA;obtain⟨G24,Ze,XU⟩:=Nc T (Vc.up (by decide)) hIn tW;obtain⟨G25,Zd,XT⟩:=JM T (RB.up (by decide)) Q2 (Vd.up (by decide)) U4 (Vc.up (by decide)) hIn (D3.up (by decide)) vk;obtain⟨G26,Zc,XR⟩:=Nb T (Ze.up (by decide)) XU (Zd.up (by decide)) XT Nw;obtain⟨G27,Vb,U5⟩:=Na (P:=lw.prog) (w:=w) (base:=base) T Bi;obtain⟨G28,Va,Lm⟩:=JJ T dB (D4.up (by decide)) rC;obtain⟨G29,V9,xG⟩:=HJ T dB LJ SM (D3.up (by decide)) (D4.up (by decide)) (D6.up (by decide)) Ie;obtain⟨G30,Zb,XI⟩:=N9 T dB (Vf.up (by decide)) U2 (Va.up (by decide)) Lm (Vb.up (by decide)) U5 (V9.up (by decide)) xG Ez
 obtain⟨G31,Za,XM⟩:=JT T (RB.up (by decide)) Q2 (Vd.up (by decide)) U4 (Va.up (by decide)) Lm (Vb.up (by decide)) U5 (V9.up (by decide)) xG (D7.up (by decide)) (Zb.up (by decide)) XI wD;obtain⟨G32,Z9,Y2⟩:=JS T wB (D4.up (by decide)) K1;obtain⟨G33,Z8,Y0⟩:=SK T (D7.up (by decide)) HZ;obtain⟨G34,Z7,Y4⟩:=QL T (Zg.up (by decide)) XD (Zc.up (by decide)) XR (RB.up (by decide)) Q2 (Z8.up (by decide)) Y0 (Za.up (by decide)) XM wG;obtain⟨G35,Z6,Y5⟩:=HI T (Z7.up (by decide)) Y4 (Z9.up (by decide)) Y2 I0;have Z5:=Qt (P:=lw.prog) (w:=w) (base:=base) T Bn;have B4:=Qs (P:=lw.prog) (w:=w) (base:=base) T Bm;have Iq:=Nk (P:=lw.prog) (w:=w) (base:=base) T Bp;have LW:=Nj T Iq Bo;have V8:=JN T Iq AO;have V7:=JQ (P:=lw.prog) (w:=w) (base:=base) T AS;obtain⟨G43,Z0,Y1⟩:=QB T Iq rF;obtain⟨G44,V6,Ud⟩:=QK T Z0 Y1 pP;have V5:=QM T B4 Iq vn;have RA:=QC T (B4.up (by decide)) V5 Bq;obtain⟨G47,V4,CC⟩:=Qy T LW V8 vm;obtain⟨G48,YZ,XG⟩:=JO T V4 CC (V7.up (by decide)) AQ;obtain⟨G49,V3,U1⟩:=HD (P:=lw.prog) (w:=w) (base:=base) T y8;obtain⟨G50,YY,XJ⟩:=Ni T (V6.up (by decide)) Ud (YZ.up (by decide)) XG (V3.up (by decide)) U1 rE;obtain⟨G52,Rz,Q3⟩:=Qz T LW V8 EC;obtain⟨G53,YW,Y3⟩:=JP T Rz Q3 (V7.up (by decide)) AR;obtain⟨G51,YX,W3⟩:=Nh T YY (V6.up (by decide)) Ud (YW.up (by decide)) Bl;have XC:=M4 XJ Y3 W3;obtain⟨G60,V2,Uc⟩:=QN T (Rz.up (by decide)) Q3 (V5.up (by decide)) (RA.up (by decide)) (B4.up (by decide)) (LW.up (by decide)) Bs;obtain⟨G61,V1,U6⟩:=QJ T (Iq.up (by decide)) (B4.up (by decide)) (V4.up (by decide)) CC (V3.up (by decide)) U1 (LW.up (by decide)) Br;obtain⟨G62,YV,XS⟩:=HC T (V2.up (by decide)) Uc (B4.up (by decide)) (V1.up (by decide)) U6 (RA.up (by decide)) wH;obtain⟨G63,YU,XF⟩:=Ba T (V2.up (by decide)) Uc (B4.up (by decide)) (V1.up (by decide)) U6 (Rz.up (by decide)) Q3 tY;have DL:=SJ T (Z5.up (by decide)) (B4.up (by decide)) (RA.up (by decide)) (YV.up (by decide)) XS (YU.up (by decide)) XF (Z6.up (by decide)) Y5 (YX.up (by decide)) XC SQ;exact(Pd DL λns hl=>by unfold EI;exact if_pos ⟨ns,rfl,hl⟩).mono (by decide)
end
end UQ
namespace PySem.W.Fast
def tw13240084463998105099:=0
def tw11917022176313984461:=0
def tw15361650246503952070:=0
def tw3341075080103830991:=0
def tw3128895992495890559:=0
def tw2603304365959223355:=0
def tw17850013906004831758:=0
def tw11605398770294625572:=0
def tw1488376333299555132:=0
def tw249159943920231847:=0
def tw12419359489201759232:=0
def tw16718345599516442280:=0
def tw17313903797480013367:=0
def tw14436982087139212578:=0
def tw3858299637662332011:=0
def tw13815235425371760805:=0
def tw4454504291572698926:=0
def tw3964794216937193965:=0
def tw2944003338787284459:=0
def tw16155890379158494168:=0
def tw18260153178044962552:=0
def tw16045482066224223363:=0
def tw6574428857467364747:=0
def tw1801279442027472613:=0
def tw14463502775671805750:=0
def tw1250332786315494077:=0
def tw6144533649452719550:=0
def tw14930659526748112771:=0
def tw18017677966362613061:=0
def tw9188842350948312640:=0
def tw2099921647352063369:=0
def tw1655520428021735938:=0
def tw6346701771278405083:=0
def tw7838132490918602826:=0
def tw15862169902910852718:=0
def tw1176550872248196375:=0
def tw1337306975568304653:=0
def tw7172441066435217654:=0
def tw1473555085458979865:=0
def tw6389193161039549266:=0
def tw2919913468185116173:=0
def tw15052902666478723214:=0
def tw13084721420389984073:=0
def tw1844588216175490730:=0
def tw17293429182635791117:=0
def tw1426784573339937791:=0
def tw855232969966428746:=0
def tw9891951960887665582:=0
def tw1575380979903827862:=0
def tw10434762757652754407:=0
def tw15896895890167827821:=0
def tw14011773503319977158:=0
def tw14195241491516986388:=0
def tw10813419599925598252:=0
def tw10789420365031070497:=0
def tw3086276710832528187:=0
def tw8204364611595441436:=0
def tw2352174860360122512:=0
def tw14303282701953450768:=0
def tw11258666123226961411:=0
def tw7022689069054120584:=0
def tw8561651232405607563:=0
def tw17639619592905666526:=0
def tw14435684676562143080:=0
def tw16889566857517238271:=0
def tw16895753679385729997:=0
def tw903249160720286257:=0
def tw10913237063416963721:=0
def tw5503877246696554133:=0
def tw3063196167277110991:=0
def tw1194140950136344010:=0
def tw13600488945920888438:=0
def tw13591961616763205385:=0
def tw10857311601946804724:=0
def tw8993886682502326384:=0
def tw14055215561998696671:=0
def tw1994978541611717366:=0
def tw5951025574324993499:=0
def tw12639307056073781846:=0
def tw2650169680799201541:=0
def tw2380524633082347862:=0
def tw15814008286719046952:=0
def tw655226600084764585:=0
def tw16029081907631550126:=0
def tw11053739999692338111:=0
def tw12320330123291816471:=0
def tw18423773354703370844:=0
def tw13308541500073014844:=0
def tw2373310911276981122:=0
def tw895736640003538882:=0
def tw17135706873469274932:=0
def tw17190896004885732456:=0
def tw10639104986088728487:=0
def tw16329184797135007259:=0
def tw17746449367252961567:=0
def tw4708745567352613120:=0
def tw15815284607073835995:=0
def tw3241644809062121206:=0
def tw627600409775977846:=0
def tw17764667727238857092:=0
def tw16102219977141431833:=0
def tw16264357716245959725:=0
def tw13063839697890704552:=0
def tw6098056860409498486:=0
def tw14123820330135743096:=0
def tw1838233345662982795:=0
def tw3093713250653034348:=0
def tw9869305287403085374:=0
def tw11804781991187452855:=0
def tw4118999661905023981:=0
def tw1718183411384328914:=0
def tw17200204660589032525:=0
def tw2295244034369115836:=0
def tw1549841815486066596:=0
def tw14512384367326647600:=0
def tw862715381351465289:=0
def tw6277472501114489557:=0
def tw1860533478162417106:=0
def tw4186623040103766096:=0
def tw11674459437079877531:=0
def tw1426298926423376775:=0
def tw6371070394711060899:=0
def tw2431499773910985615:=0
def tw4433274218703276701:=0
def tw4565082717945225069:=0
def tw5726627368893102837:=0
def tw17489343067190039460:=0
def tw14051371038261166001:=0
def tw4980360197196515728:=0
def tw3089178436241169825:=0
def tw13272580123849714786:=0
def tw467100020903909068:=0
def tw279618238149872891:=0
def tw5100812321639170596:=0
def tw5700143417251759550:=0
def tw14823622486967208141:=0
def tw12987070511587041954:=0
def tw9500123151408955389:=0
def tw13701298497356639254:=0
def tw4000656617212759194:=0
def tw17004011959207374551:=0
def tw12447842689465640270:=0
def tw1612827555756849167:=0
def tw13218784285526314471:=0
def tw7814195182037960779:=0
def tw10971490538675414039:=0
def tw600771373844793996:=0
def tw10827859778526731525:=0
def tw11910392210591649908:=0
def tw8020192864055851597:=0
def tw18009738775086466415:=0
def tw1790947763832231076:=0
def tw15769186416115282509:=0
def tw9763829596806638763:=0
def tw2289639225136008193:=0
def tw3232670438244305022:=0
def tw15968269047224459609:=0
def tw11847396891099774342:=0
def tw5363647029867625174:=0
def tw8074903915488611838:=0
def tw3199978127503811682:=0
def tw541222899250307651:=0
def tw9469684136881143391:=0
def tw12901744072750206504:=0
def tw12754513992653030690:=0
def tw9990921852061884448:=0
def tw5991831118643214912:=0
def tw9370204965321556598:=0
def tw7454369964774978848:=0
def tw5199848171057747935:=0
def tw10450620719383751522:=0
def tw765737623568144052:=0
def tw4767933530341452911:=0
def tw829035349950604747:=0
def tw7232669214191316958:=0
def tw4258474742476426326:=0
def tw15155756405871589007:=0
def tw14106081543255198637:=0
def tw4708222427910765798:=0
def tw1559956562524826338:=0
def tw2067911315851838968:=0
def tw4206929146939265515:=0
def tw2322826371500506246:=0
def tw16828398612303954071:=0
def tw1250203420122592463:=0
def tw4925435704330377253:=0
def tw16754472672800972084:=0
def tw17000894615192749627:=0
def tw1639953996722260344:=0
def tw14843543499013892849:=0
def tw7937308076806348701:=0
def tw18286625890230199452:=0
def tw15320592352944053709:=0
def tw14129747259095485382:=0
def tw11078183127773256403:=0
def tw1967769037841447971:=0
def tw17261627185846847385:=0
def tw15833671589332089084:=0
def tw12011253429416634193:=0
def tw7309776226518142799:=0
def tw18002374019131231783:=0
def tw3382115967005343551:=0
def tw2343460611245307001:=0
def tw13098009751881135076:=0
def tw10537139348943055126:=0
def tw6129937483054136436:=0
def tw13932609274326907103:=0
def tw1762672750492281909:=0
def tw2137229256253008136:=0
def tw1582877063190846151:=0
def tw5647137034588146702:=0
def tw5289093568413086900:=0
def tw6917360133109277441:=0
def tw10554267822353604920:=0
def tw4932224169639807827:=0
def tw15377379575283559223:=0
def tw5215314744041485417:=0
def tw1736962012002354786:=0
def tw14863138157089627789:=0
def tw9410072389197013671:=0
def tw1802997220148341656:=0
def tw16550872144625576494:=0
def tw8270784355216246558:=0
def tw18309805147975967070:=0
def tw17472102163675396714:=0
def tw16776211588548979991:=0
def tw14061469089398548904:=0
def tw12703774395487707703:=0
def tw11934126972508403382:=0
def tw11585187467099874902:=0
def tw17634410905136147467:=0
def tw17870532669647923521:=0
def tw4935968355844262936:=0
def tw16150896694229950505:=0
def tw13160093447401847055:=0
def tw4138499801608468270:=0
def tw12628244402052610043:=0
def tw10580502527637002117:=0
def tw15030378680856854575:=0
def tw15730184041365447042:=0
def tw1381030341398317334:=0
def tw10027895167549288229:=0
def tw9757819713180315642:=0
def tw9679641726792204926:=0
def tw9463517122545227127:=0
def tw9267302551034187659:=0
def tw9250446728464923690:=0
def tw9100330148022675459:=0
def tw9028417112742654120:=0
def tw8979533665446480934:=0
def tw8746479872918411520:=0
def tw8718932168493043395:=0
def tw8480905459114443416:=0
def tw8283446396187365662:=0
def tw8221523032541856983:=0
def tw8078659706648513745:=0
def tw7958562324607367611:=0
def tw6885047602132045288:=0
def tw6634184621003877921:=0
def tw6458894106229777316:=0
def tw6359316595856637457:=0
def tw6115722530345156423:=0
def tw6029679002233194536:=0
def tw5913900761017131871:=0
def tw5822794939448747337:=0
def tw5820400829602837000:=0
def tw548621154375697429:=0
def tw5312823901657403111:=0
def tw504422327172003186:=0
def tw4882605385760205704:=0
def tw4622732923020105107:=0
def tw4149643593519994283:=0
def tw4044750817100182506:=0
def tw3826377274689431959:=0
def tw3671458572626321199:=0
def tw3614048300670470854:=0
def tw357051335906349974:=0
def tw352612722851520223:=0
def tw3439656243969341238:=0
def tw3313307863771034486:=0
end PySem.W.Fast
open PySem PySem.W PyProof.Rows
local macro_rules | `(tactic| simp_all!) => `(tactic| (refine' L3.Wc (by assumption) (by assumption) ?a ?l ?c ?k ?b; (case a => k_is); (case l => k_is); (case c => k_is); (case k => k_is); (case b => intro _ _ _ _ _ _ us hl; rcases us with _ | ⟨_, _ | ⟨_, _ | ⟨_, _ | ⟨_, _ | ⟨_, _ | ⟨_, _⟩⟩⟩⟩⟩⟩ <;> first | rfl | cases hl)))
set_option maxRecDepth 100000 in
set_option maxHeartbeats 0 in
theorem PySem.Challenge.cw_stepjudge_k21_lines_that_hold_nowhere_holds : PySem.Challenge.rw_stepjudge_k21_lines_that_hold_nowhere.Holds := by
 w_on;o_law;x_head;(case hw=>w_witness2)
 k_fill
 refine L3.RM (k:=1) (by decide) (l:=PySem.Challenge.rw_stepjudge_k21_lines_that_hold_nowhere) rfl rfl (λw h Y=>PySem.W.kIn_of Y) ?F;case F=>
  intro w mg fa h KX G GQ;refine' UQ.all_mk KX G GQ ?u1 ?u2 ?u3 ?u4 ?u5 ?u6 ?u7 ?u8 ?u9 ?u10 ?u11 ?u12 ?u13 ?u14 ?u15 ?u16 ?u17 ?u18 ?u19 ?u20 ?u21 ?u22 ?u23 ?u24 ?u25 ?u26 ?u27 ?u28 ?u29 ?u30 ?u31 ?u32 ?u33 ?u34 ?u35 ?u36 ?u37 ?u38 ?u39 ?u40 ?u41 ?u42 ?u43 ?u44 ?u45 ?u46 ?u47 ?u48 ?u49 ?u50 ?u51 ?u52 ?u53 ?u54 ?u55 ?u56 ?t1 ?t2 ?t3 ?t4 ?a ?l ?c ?k ⟨?se,mg_none_of KX G ?z1,mg_none_of KX G ?z2,mg_none_of KX G ?z3,mg_none_of KX G ?z4,mg_none_of KX G ?z5,mg_none_of KX G ?z6,mg_none_of KX G ?z7,mg_none_of KX G ?z8,mg_none_of KX G ?z9,mg_none_of KX G ?z10,mg_none_of KX G ?z11,mg_none_of KX G ?z12,mg_none_of KX G ?z13⟩
  (case se=>refine' L3.Me KX G rfl ?s1 ?s3 ?s4 ?s5 ?s7 ?s8 ?s9 ?s2 ?s6;(case s1=>k_is);(case s3=>k_is);(case s4=>k_is);(case s5=>k_is);(case s7=>k_is);(case s8=>k_is);(case s9=>k_is);(case s2=>rfl);(case s6=>rfl))
  case u1|u2|u3|u4|u5|u6|u7|u8|u9|u10|u11|u12|u13|u14|u15|u16|u17|u18|u19|u20|u21|u22|u23|u24|u25|u26|u27|u28|u29|u30|u31|u32|u33|u34|u35|u36|u37|u38|u39|u40|u41|u42|u43|u44|u45|u46|u47|u48|u49|u50|u51|u52|u53|u54|u55|u56=>simp_all!
  case t1|t2|t3|t4=>refine' L3.ya KX G ?ta ?tl;(case ta=>k_is);(case tl=>k_is)
  case a|l|c|k=>k_is
  case z1|z2|z3|z4|z5|z6|z7|z8|z9|z10|z11|z12|z13=>k_is
