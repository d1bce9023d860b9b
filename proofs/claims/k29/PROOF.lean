import PyProof.Rows.All
import Wide.All
import OpenK.AllK
import Wide.FinOn
import Lean
import PyProof.EqAt
import PyProof.EqKinds
import PyProof.TupleCall
import KE.KDictList
import KE.KMinKey
import OpenK.XHead
import PySem.Challenge.RW_stepjudge_k29_ranges_of_turned_boxes
open PySem.W (methodObj Frag keepIn fnOf codeIn kia_one nsIn mg_of ns_none_of mg_none_of)
open PySem.Heap (lt_size SameBut get?_push_of_some get?_push_size size_push ExtBut IsTuple IsList)
open Nat (lt_of_lt_of_le lt_irrefl ne_of_lt le_trans mul_one le_refl add_comm lt_of_le_of_lt lt_trans le_succ zero_le zero_add min_self dvd_trans lcm sub_self sub_zero pow_succ mul_le_mul add_le_add add_sub_cancel reduceAdd reduceSub reduceEqDiff reduceLeDiff pow_add pow_le_pow_right pow_pos one_lt_two_pow)
open List (mem_filter mem_range mem_cons_self mem_cons_of_mem mem_cons append_assoc mem_append mem_append_left getElem?_set_self getElem?_set_ne mem_append_right size_toArray append_nil nodup_cons of_mem_zip length_take getElem?_append_right getElem?_replicate getElem?_append_left getElem?_map mem_of_getElem? length_append length_map length_replicate length_drop length_set all_cons any_cons replicate_succ flatten_cons foldl foldl_cons length_singleton nil_append map_nil map_cons getElem?_cons_succ getElem?_cons_zero lookup_cons forIn_nil drop_zero drop_eq_nil_of_le length_range getElem?_eq_getElem not_mem_nil mem_map cons_append length_cons zip_cons_cons all_map all_eq_true nodup_nil map_map length_zip map_append mem_singleton zipWith getD_eq_getElem?_getD length_zipWith mem_of_find?_eq_some find?_some getElem?_range getElem_mem take_of_length_le filter_cons length_filter_le length_nil range' set_cons_zero set_cons_succ foldl_nil isEmpty mem_replicate map_drop map_take tail)
open Rat (le_of_lt mkRat_self intCast_mul inv_pos mul_eq_zero intCast_neg not_le)
open Array (length_toList toList forIn_toList)
open Int (ne_of_gt toNat_natCast mul_comm gcd gcd_dvd_left gcd_dvd_right natAbs_mul mul_zero natAbs_natCast mul_ne_zero one_mul zero_sub natAbs_neg)
open Bool (and_eq_true false_eq_true or_eq_true)
open PySem.F (plainAttrs_list)
open Option (map_some map_none bind_none)
set_option Elab.async false
set_option linter.all false
set_option maxRecDepth 100000
namespace L2
noncomputable section
open PySem PySem.Spec PyProof.Rows
abbrev Key:=Sum Int Str
def L9:Key->Value->Bool
 | .inl k,v=>Value.isInt k v
 | .inr x,v=>Value.isStrOf x v
def VY (w:World):Key->Int
 | .inl k=>hashInt k
 | .inr x=>hashStr w x
theorem eV:∀{k:Key} {v:Value},L9 k v=true->(∃i t,k=Sum.inl i/\v=Value.int i t)\/(∃x t,k=Sum.inr x/\v=Value.str x t)
 | .inl i,v,h=>by
  obtain⟨t,e⟩:=Value.isInt_shape (k:=i) (v:=v) h;exact .inl ⟨i,t,rfl,e⟩
 | .inr x,v,h=>by
  obtain⟨t,e⟩:=Value.isStrOf_shape (x:=x) (v:=v) h;exact .inr ⟨x,t,rfl,e⟩
theorem PY(a b:Int):decide ((Sum.inl a:Key)=Sum.inl b)=(a==b):=by
 by_cases e:a=b
 ·subst e;simp
 ·have h:¬(Sum.inl a:Key)=Sum.inl b:=λq=>e (Sum.inl.inj q);rw[decide_eq_false h];exact(beq_eq_false_iff_ne.mpr e).symm
theorem PU(a b:Str):decide ((Sum.inr a:Key)=Sum.inr b)=decide (a=b):=by
 by_cases e:a=b
 ·subst e;simp
 ·have h:¬(Sum.inr a:Key)=Sum.inr b:=λq=>e (Sum.inr.inj q);rw[decide_eq_false h,decide_eq_false e]
theorem PX(a:Int)(b:Str):decide ((Sum.inl a:Key)=Sum.inr b)=false:=decide_eq_false (λq=>nomatch q)
theorem PV(a:Str)(b:Int):decide ((Sum.inr a:Key)=Sum.inl b)=false:=decide_eq_false (λq=>nomatch q)
def wg (prog:Program) (w:World):PySem.KeyKind prog w Key where
 is:=L9
 hash:=VY w
 inj:=λv a b ha hb=>by
  rcases eV ha with⟨i,t,rfl,rfl⟩|⟨x,t,rfl,rfl⟩
  ·rcases eV hb with⟨j,u,rfl,e⟩|⟨y,u,rfl,e⟩
   ·injection e with e1 _;rw[e1]
   ·exact nomatch e
  ·rcases eV hb with⟨j,u,rfl,e⟩|⟨y,u,rfl,e⟩
   ·exact nomatch e
   ·injection e with e1 _;rw[e1]
 byValue:=λk v h=>by
  rcases eV h with⟨i,t,rfl,rfl⟩|⟨x,t,rfl,rfl⟩<;>rfl
 pyHash:=λhv h=>by
  rcases eV hv with⟨i,t,rfl,rfl⟩|⟨x,t,rfl,rfl⟩
  ·exact wpAny_pyHash_int h
  ·exact wpAny_pyHash_str h
 eqBool:=λhu hv h=>by
  rcases eV hu with⟨i,t,rfl,rfl⟩|⟨x,t,rfl,rfl⟩
  ·rcases eV hv with⟨j,u,rfl,rfl⟩|⟨y,u,rfl,rfl⟩
   ·rw[PY]at h;exact wpAny_eqBool_int h
   ·rw[PX]at h;exact SeqAt.EqAt.int_str i t y u _ _ _ _ h
  ·rcases eV hv with⟨j,u,rfl,rfl⟩|⟨y,u,rfl,rfl⟩
   ·rw[PV]at h;exact SeqAt.EqAt.str_int x t j u _ _ _ _ h
   ·rw[PU]at h;exact wpAny_eqBool_str h
 «strs»:=λk x t v h=>by
  rcases eV h with⟨i,u,rfl,e⟩|⟨y,u,rfl,e⟩
  ·exact nomatch e
  ·injection e with e1 _;subst e1;cases v<;>rfl
open PySem PySem.Spec PyProof.Rows
inductive V where
 |bW|bl (b:Bool)|int (i:Int)|str (x:Str)|mY (b:Array UInt8)|QU (b:UInt64)|ref (a:Addr)|ty (n:String)
 deriving DecidableEq
def RelV:V->Value->Prop
 | .bW,u=>u=Value.none
 | .bl b,u=>u=Value.bool b
 | .int i,u=>∃t,u=Value.int i t
 | .str x,u=>∃t,u=Value.str x t
 | .mY b,u=>∃t,u=Value.bytes b t
 | .QU b,u=>∃t,u=Value.float b t
 | .ref a,u=>u=Value.ref a
 | .ty n,u=>u=Value.type n
abbrev Vals:List V->List Value->Prop:=Paired RelV
variable {xs:List V} {us:List Value}
theorem Vals.length(r:Vals xs us):xs.length=us.length:=Paired.length r
theorem Vals.get:∀{xs:List V} {us:List Value} {i:Nat} {x:V},Vals xs us->xs[i]?=some x->∃u,us[i]?=some u/\RelV x u
 |_,_,_,_,.nil,e=>by simp at e
 |_,_,0,_,.cons r _,e=>by simp at e;subst e;exact⟨_,rfl,r⟩
 |_,_,i+1,x,.cons _ t,e=>by
  obtain⟨u,h1,h2⟩:=Vals.get (i:=i) (x:=x) t (by simpa using e);exact⟨u,by simpa using h1,h2⟩
theorem Vals.set{x:V}{u:Value}(r:RelV x u):∀{xs:List V} {us:List Value} (i:Nat),Vals xs us->Vals (xs.set i x) (us.set i u)
 |_,_,_,.nil=>.nil
 |_,_,0,.cons _ t=>.cons r t
 |_,_,i+1,.cons q t=>.cons q (Vals.set r i t)
theorem Vals.append:∀{xs ys:List V} {us ws:List Value},Vals xs us->Vals ys ws->Vals (xs++ys) (us++ws)
 |_,_,_,_,.nil,s=>s
 |_,_,_,_,.cons r t,s=>.cons r (Vals.append t s)
theorem Vals.take:∀{xs:List V} {us:List Value} (n:Nat),Vals xs us->Vals (xs.take n) (us.take n)
 |_,_,0,_=>.nil
 |_,_,_+1,.nil=>.nil
 |_,_,n+1,.cons r t=>.cons r (Vals.take n t)
theorem Vals.drop:∀{xs:List V} {us:List Value} (n:Nat),Vals xs us->Vals (xs.drop n) (us.drop n)
 |_,_,0,r=>r
 |_,_,_+1,.nil=>.nil
 |_,_,n+1,.cons _ t=>Vals.drop n t
def RC:Option V->Option Value->Prop
 |some v,some u=>RelV v u
 |none,none=>True
 |_,_=>False
def KV {κ:Type}:List (κ×V)->List (κ×Value)->Prop:=Paired fun(p:κ×V) (q:κ×Value)=>p.1=q.1/\RelV p.2 q.2
def kV:Key->V
 | .inl i=>.int i
 | .inr x=>.str x
inductive HO where
 /-- a list -/
 |lst (xs:List V)
 /-- a tuple (never changes) -/
 |tup (xs:List V)
 /-- a dict S4 keys are ints and texts;one S4 keys are tuples of ints and texts (BQ empty one is both) -/
 |dK (fO:List (Key×V))|dT (fO:List (List Key×V))
 /-- a set of ints: aq members,aq size -/
 |set (S:Int->Bool) (n:Nat)
 /-- an instance of BQ class at C,aq dict at dx,aq attributes -/
 |ins (C dx:Addr) (fs:List (Str×V))
 /-- BQ dict of BQ instance at x -/
 |own (x:Addr)
 /-- BQ dict of an exception -/
 |xd (fs:List (Str×V))
 /-- a bound method,f of x -/
 |met (f x:Addr)
 /-- a range object lo,lo+1,.. below hi -/
 |OH (lo hi:Int)
 /-- a S7 that is known to BQ object (BQ script;a dict S5 a loop walks it): read,never written S5 it is so -/
 |qa (o:Obj) (u:HO)
 /-- a code object's table -/
 |yM (ps:Array Value)
 /-- any other S7,by what is true of aq one object (a def of one's own: SetO a S n:=HO.ext λh=>..) -/
 |ext (φ:Heap->Prop)
abbrev Hp:=Addr->Option HO
def upd (H:Hp) (a:Addr) (o:HO):Hp:=λb=>if b=a then some o else H b
variable {H:Hp} {a:Addr} {o:HO}
theorem dC:upd H a o a=some o:=by unfold upd;rw[if_pos rfl]
variable {b:Addr}
theorem bB(h:b≠a):upd H a o b=H b:=by unfold upd;rw[if_neg h]
theorem bp(h:H a=some o)(h':H b=none):a≠b:=by
 intro e;subst e;rw[h]at h';cases h'
section
variable (P:Program) (w:World)
def gj (H:Hp) (h:Heap) (a:Addr):HO->Prop
 | .lst xs=>xs.length<=sizeLine/\∃(aq:List Value) (n:Nat),Vals xs aq/\h.get? a=some {cls:=.type "list",data:=.seq aq.toArray n}
 | .tup xs=>xs.length<=sizeLine/\∃aq:List Value,Vals xs aq/\IsTup h a aq.toArray
 | .dK fO=>fO.length<=sizeLine/\(a==sysModules)=false/\∃vs,KV fO vs/\h.DictOf (wg P w) a vs
 | .dT fO=>fO.length<=sizeLine/\(a==sysModules)=false/\∃xs:List (List Key×Addr×Value),
   Paired (fun(p:List Key×V) (q:List Key×Addr×Value)=>p.1=q.1/\H q.2.1=some (.tup (p.1.map kV))/\RelV p.2 q.2.2) fO xs/\
   ∃o es ep,h.get? a=some o/\o.ExactDict/\o.data=.dict es ep/\es.toList=xs.map (entryOfKey (tupleKind (wg P w)))/\(xs.map (·.1)).Nodup
 | .set S n=>h.SetOf (intKind P w) a S n
 | .ins C dx fs=>H dx=some (.own a)/\fs.length<=1000/\dx≠a/\h.get? a=some (PySem.W.instObj C dx)/\
   ∃mA,h.Ns1 dx mA/\(∀f,RC (fs.lookup f) (mA f))/\PySem.Within mA (fs.map (·.1))
 | .own _=>∃o,h.get? a=some o
 | .xd fs=>∃mA,h.Ns1 a mA/\∀f,RC (fs.lookup f) (mA f)
 | .OH lo hi=>∃t u v,h.get? a=some {cls:=.type "range",data:=.fields #[.int lo t,.int hi u,.int 1 v]}
 | .qa o u=>h.get? a=some o/\gj H h a u
 | .yM ps=>h.get? a=some {cls:=.none,data:=.fields ps}
 | .met f x=>h.get? a=some (methodObj (.ref f) (.ref x))
 | .ext φ=>φ h/\(∃o,h.get? a=some o)/\∀h1 h2:Heap,φ h1->(∀o,h1.get? a=some o->h2.get? a=some o)->φ h2
def i7 (H:Hp) (h:Heap):Prop:=∀a o,H a=some o->gj P w H h a o
end
variable {P:Program} {h:Heap} {w:World}
theorem gj.lt(x:gj P w H h a o):a<h.objs.size:=by
 cases o with
 |lst xs=>obtain⟨_,_,_,_,e⟩:=x;exact lt_size e
 |tup xs=>obtain⟨_,_,_,p⟩:=x;exact p.lt
 |dK fO=>obtain⟨_,_,_,_,o,_,_,e,_⟩:=x;exact lt_size e
 |dT fO=>obtain⟨_,_,_,_,o,_,_,e,_⟩:=x;exact lt_size e
 |set S n=>obtain⟨o,_,_,_,e,_⟩:=x;exact lt_size e
 |ins C dx fs=>obtain⟨_,_,_,e,_⟩:=x;exact lt_size e
 |own y=>obtain⟨_,e⟩:=x;exact lt_size e
 |xd fs=>obtain⟨_,⟨_,_,_,e,_⟩,_⟩:=x;exact lt_size e
 |OH lo hi=>obtain⟨_,_,_,e⟩:=x;exact lt_size e
 |qa ob u=>obtain⟨e,_⟩:=x;exact lt_size e
 |yM ps=>exact lt_size (show h.get? a=some _ from x)
 |met f y=>exact lt_size (show h.get? a=some _ from x)
 |ext φ=>obtain⟨_,⟨_,e⟩,_⟩:=x;exact lt_size e
theorem Paired.Pz{α β:Type}{F G:α->β->Prop}:∀{PC:List α} {PB:List β},Paired F PC PB->(∀a b,F a b->G a b)->Paired G PC PB
 |_,_,.nil,_=>.nil
 |_,_,.cons r t,f=>.cons (f _ _ r) (Paired.Pz t f)
variable {h':Heap} {H':Hp}
theorem gj.nP(x:gj P w H h a o)(k:∀b u,(b=a\/H b=some (.own a))->h.get? b=some u->h'.get? b=some u)(ho:∀b,H b=some (.own a)->H' b=some (.own a))(ht:∀b xs,H b=some (.tup xs)->H' b=some (.tup xs)):gj P w H' h' a o:=by
 induction o with
 |lst xs=>obtain⟨z,aq,n,r,e⟩:=x;exact⟨z,aq,n,r,k _ _ (.inl rfl) e⟩
 |tup xs=>obtain⟨z,aq,r,ob,e,c⟩:=x;exact⟨z,aq,r,ob,k _ _ (.inl rfl) e,c⟩
 |dK fO=>obtain⟨z,y,vs,r,ob,es,ep,e,c⟩:=x;exact⟨z,y,vs,r,ob,es,ep,k _ _ (.inl rfl) e,c⟩
 |dT fO=>
  obtain⟨z,y,xs,r,ob,es,ep,e,c⟩:=x;exact⟨z,y,xs,Paired.Pz r λp q z=>⟨z.1,ht _ _ z.2.1,z.2.2⟩,ob,es,ep,k _ _ (.inl rfl) e,c⟩
 |set S n=>obtain⟨ob,es,ep,t,e,c⟩:=x;exact⟨ob,es,ep,t,k _ _ (.inl rfl) e,c⟩
 |ins C dx fs=>
  obtain⟨d,z,ne,e,mA,⟨od,es,ep,e2,c⟩,r⟩:=x;exact⟨ho _ d,z,ne,k _ _ (.inl rfl) e,mA,⟨od,es,ep,k _ _ (.inr d) e2,c⟩,r⟩
 |own y=>obtain⟨ob,e⟩:=x;exact⟨ob,k _ _ (.inl rfl) e⟩
 |xd fs=>obtain⟨mA,⟨od,es,ep,e,c⟩,r⟩:=x;exact⟨mA,⟨od,es,ep,k _ _ (.inl rfl) e,c⟩,r⟩
 |OH lo hi=>obtain⟨t,u,v,e⟩:=x;exact⟨t,u,v,k _ _ (.inl rfl) e⟩
 |qa ob u ih=>obtain⟨e,q⟩:=x;exact⟨k _ _ (.inl rfl) e,ih q⟩
 |yM ps=>
  have e:h.get? a=some {cls:=.none,data:=.fields ps}:=x;show h'.get? a=some {cls:=.none,data:=.fields ps};exact k a _ (.inl rfl) e
 |met f y=>
  have e:h.get? a=some (methodObj (.ref f) (.ref y)):=x;show h'.get? a=some (methodObj (.ref f) (.ref y));exact k a _ (.inl rfl) e
 |ext φ=>obtain⟨p,⟨o,e⟩,st⟩:=x;exact⟨st _ _ p λo q=>k _ _ (.inl rfl) q,⟨o,k _ _ (.inl rfl) e⟩,st⟩
theorem i7.lt(x:i7 P w H h)(e:H a=some o):a<h.objs.size:=(x a o e).lt
theorem i7.fresh(x:i7 P w H h)(e:h.objs.size<=a):H a=none:=by
 cases q:H a with
 |none=>rfl
 |some u=>exact absurd (lt_of_lt_of_le (x.lt q) e) (lt_irrefl _)
theorem i7.kept(x:i7 P w H h)(k:∀b u,h.get? b=some u->h'.get? b=some u):i7 P w H h':=λa o e=>
 (x a o e).nP (λb u _ q=>k b u q) (λ_ q=>q) λ_ _ q=>q
theorem i7.laid(x:i7 P w H h)(k:∀b u,h.get? b=some u->h'.get? b=some u)(hp:h.objs.size<=a)(new:gj P w (upd H a o) h' a o):i7 P w (upd H a o) h':=λb u e=>by
 have hn:=x.fresh hp;by_cases hb:b=a
 ·subst hb;rw[dC]at e;cases e;exact new
 ·rw[bB hb]at e;exact(x b u e).nP (λc v _ q=>k c v q) (λc q=>by rw[bB (bp q hn)];exact q) λc xs q=>by rw[bB (bp q hn)];exact q
def Rd (H:Hp) (a:Addr) (u:HO):Prop:=H a=some u\/∃o,H a=some (.qa o u)
theorem Rd.ok{u:HO}(r:Rd H a u)(x:i7 P w H h):gj P w H h a u:=by
 rcases r with r|⟨o,r⟩
 ·exact x a u r
 ·obtain⟨_,q⟩:=x a _ r;exact q
def M4:Option HO->Prop
 |some (.lst _)=>True
 |some (.dK _)=>True
 |some (.dT _)=>True
 |some (.set _ _)=>True
 |some (.ins _ _ _)=>True
 |some (.ext _)=>True
 |_=>False
variable {x e:Addr} {o':HO}
theorem i7.write(ok:i7 P w H h)(mu:M4 (H x))(he:e=x\/H e=some (.own x))(k:∀b u,b≠e->h.get? b=some u->h'.get? b=some u)(CG:∃u,h'.get? e=some u)(new:gj P w (upd H x o') h' x o'):i7 P w (upd H x o') h':=λb u q=>by
 have Pn:∀c y,H c=some (.own y)->c≠x:=λc y r z=>by subst z;rw[r]at mu;exact mu
 have VU:∀c xs,H c=some (.tup xs)->c≠x:=λc xs r z=>by subst z;rw[r]at mu;exact mu
 by_cases hb:b=x
 ·subst hb;rw[dC]at q;cases q;exact new
 ·rw[bB hb]at q;by_cases Ai:b=e
  ·have q':H b=some (.own x):=by
    rcases he with z|z
    ·exact absurd (Ai.trans z) hb
    ·rw[Ai];exact z
   rw[q]at q';cases q';obtain⟨v,hv⟩:=CG;exact⟨v,by rw[Ai];exact hv⟩
  ·refine(ok b u q).nP (λc v hc r=>k c v ?_ r) (λc r=>by rw[bB (Pn c b r)];exact r) λc xs r=>by rw[bB (VU c xs r)];exact r
   rcases hc with rfl|hc
   ·exact Ai
   ·rintro rfl;rcases he with z|z
    ·exact Pn c b hc z
    ·rw[hc]at z;cases z;exact hb rfl
structure Un (fs ex:List Addr) (H H':Hp) (h h':Heap):Prop where
 keep:∀b o,h.get? b=some o->H b=none->b∉fs->b∉ex->h'.get? b=some o
 slot:∀b o,h.get? b=some o->H b=none->b∈fs->b∉ex->∃sl,h'.get? b=some {o with slots:=sl}
 free:∀b o,h.get? b=some o->H b=none->b∉ex->H' b=none
 there:∀b o,h.get? b=some o->b∉ex->∃o',h'.get? b=some o'
 nM:∀b xs,H b=some (.tup xs)->H' b=some (.tup xs)
 f7:∀b o u,H b=some (.qa o u)->H' b=some (.qa o u)
 nO:∀b ps,H b=some (.yM ps)->∃more,H' b=some (.yM (ps++more))
variable {ex:List Addr} {h1:Heap} {H1:Hp}
variable {fs:List Addr} in
theorem Un.any(u:Un fs ex H H1 h h1){ob:Obj}(q:h.get? b=some ob)(n:H b=none)(hx:b∉ex):∃sl,h1.get? b=some {ob with slots:=sl}:=by
 by_cases hb:b∈fs
 ·exact u.slot b ob q n hb hx
 ·exact⟨ob.slots,u.keep b ob q n hb hx⟩
variable {fs:List Addr} in
theorem Un.kept(k:∀b u,h.get? b=some u->h'.get? b=some u):Un fs ex H H h h':=
 ⟨λb ob q _ _ _=>k b ob q,λb ob q _ _ _=>⟨ob.slots,k b ob q⟩,λ_ _ _ n _=>n,λb ob q _=>⟨ob,k b ob q⟩,λ_ _ q=>q,λ_ _ _ q=>q,λ_ ps q=>⟨#[],by rw[q];simp⟩⟩
variable {fs:List Addr} in
theorem Un.refl:Un fs ex H H h h:=Un.kept λ_ _ q=>q
variable {fs:List Addr} in
theorem Un.laid(k:∀b u,h.get? b=some u->h'.get? b=some u)(hp:h.objs.size<=a)(hn:H a=none):Un fs ex H (upd H a o) h h' where
 keep:=λb u q _ _ _=>k b u q
 slot:=λb u q _ _ _=>⟨u.slots,k b u q⟩
 free:=λb u q n _=>by rw[bB (ne_of_lt (lt_of_lt_of_le (lt_size q) hp))];exact n
 there:=λb u q _=>⟨u,k b u q⟩
 nM:=λb xs q=>by rw[bB (bp q hn)];exact q
 f7:=λb u xs q=>by rw[bB (bp q hn)];exact q
 nO:=λb ps q=>⟨#[],by rw[bB (bp q hn),q];simp⟩
variable {fs:List Addr} in
theorem Un.write(mu:M4 (H x))(he:e=x\/H e=some (.own x))(k:∀b u,b≠e->h.get? b=some u->h'.get? b=some u)(CG:∃u,h'.get? e=some u):Un fs ex H (upd H x o) h h':=by
 have hx:∀b,H b=none->b≠x:=λb n z=>by subst z;rw[n]at mu;exact mu
 have hb:∀b,H b=none->b≠e:=λb n z=>by
  subst z;rcases he with r|r
  ·exact hx b n r
  ·rw[n]at r;cases r
 have hm:∀b u,H b=some u->¬M4 (some u)->b≠x:=λb u q nm z=>by subst z;rw[q]at mu;exact nm mu
 refine⟨λb u q n _ _=>k b u (hb b n) q,λb u q n _ _=>⟨u.slots,k b u (hb b n) q⟩,λb u q n _=>by rw[bB (hx b n)];exact n,λb u q _=>?_,
  λb xs q=>by rw[bB (hm b _ q λz=>z)];exact q,λb u xs q=>by rw[bB (hm b _ q λz=>z)];exact q,λb ps q=>⟨#[],by rw[bB (hm b _ q λz=>z),q];simp⟩⟩
 by_cases Ai:b=e
 ·subst Ai;exact CG
 ·exact⟨u,k b u Ai q⟩
def Kx (h:Heap) (H:Hp):List Addr:=(List.range h.objs.size).filter λa=>(H a).isSome
def pI (h:Heap) (H:Hp):Heap:=PySem.W.hideAll h (Kx h H)
theorem Hi(h:Heap)(H:Hp):(pI h H).objs.size=h.objs.size:=PySem.W.hideAll_size _ _
variable {o:Obj}
theorem JJ(e:h.get? b=some o)(n:H b=none):(pI h H).get? b=some o:=
 PySem.W.hideAll_get _ e λhm=>by
  have q:(H b).isSome=true:=(mem_filter.mp hm).2;rw[n]at q;simp at q
theorem N5(e:(pI h H).get? b=some o):h.get? b=some o/\H b=none:=by
 have e':h.get? b=some o:=PySem.W.of_hideAll (Kx h H) e;refine⟨e',?_⟩;cases q:H b with
 |none=>rfl
 |some x=>
  have hm:b∈Kx h H:=mem_filter.mpr ⟨mem_range.mpr (lt_size e'),by simp[q]⟩;have z:(pI h H).get? b=none:=PySem.W.hideAll_none (Kx h H) hm;rw[z]at e;cases e
def NY (g h:Heap) (L:Addr):List (Addr×Obj):=(List.range h.objs.size).filterMap λa=>if a=L\/(g.get? a).isSome=true then none else(h.get? a).map λo=>(a,o)
def rest (g h:Heap) (L d:Addr):List (Addr×Obj):=(NY g h L).filter λp=>decide (p.1≠d)
open PySem PySem.Spec PyProof.Rows
structure Mod (K:Frag) (mg:Str->Option Value) (base:Heap):Prop where
 uR:K.In base
 glob:base.Ns mainGlobals mg
 blt:∃mb,base.Ns builtinsNs mb/\∀x:Str,x≠"__name__"->mb x=bootBuiltins x
 nolimit:base.NoLimit
structure Cx where
 prog:Program
 w:World
 K:Frag
 mg:Str->Option Value
 base:Heap
 A:Around
 N:List Str
 aw:Shared
 af:Hp
 env:Env
 outer:List Env
 stack:List Env
 ex:List Addr
 fn:Str->Bool
 calm:Bool
 pn:List (Addr×Obj)
 xe:Value->Shared->Prop
def mS (l:List Env):List Addr:=l.filterMap (·.frame)
abbrev Cx.fs (X:Cx):List Addr:=mS X.outer
def kB (sc:Scope) (x:Str):Prop:=sc.names.lookup x=some .local\/sc.names.lookup x=some .cell\/sc.names.lookup x=some .free
def Loc (sc:Scope) (x:Str):Prop:=sc.names.lookup x=some .local\/sc.names.lookup x=some .cell
def Look (env:Env) (h:Heap) (m:Str->Option Value) (x:Str) (u:Value):Prop:=
 (env.kindOf x=some .local/\m x=some u)\/((env.kindOf x=some .cell\/env.kindOf x=some .free)/\∃c,env.cells.lookup x=some c/\h.IsCell c (some u))
structure Cx.Ok (X:Cx):Prop where
 mod:Mod X.K X.mg X.base
 kind:X.env.scope.kind=.function
 glob:X.env.globals=mainGlobals
 blt:X.env.builtins=builtinsNs
 above:X.aw.heap.objs.size<=X.env.locals
 inj:∀x y c,X.env.cells.lookup x=some c->X.env.cells.lookup y=some c->x=y
 has:∀x,(X.env.kindOf x=some .cell\/X.env.kindOf x=some .free)->∃c,X.env.cells.lookup x=some c
 Il:∀x c,X.fn x=true->X.env.cells.lookup x=some c->X.aw.heap.objs.size<=c
 hd:X.calm=true->X.A.handled=none
 frames:X.A.frames=some X.stack
 KI:X.stack=X.outer\/(X.stack=X.env::X.outer/\X.env.frame=some X.env.locals)
 LI:∀b∈X.ex,b≠X.env.locals/\∀x c,X.env.cells.lookup x=some c->c≠b
 bs:∀b o,X.base.get? b=some o->X.aw.heap.get? b=some o/\X.af b=none
 B1:X.base.objs.size<=X.aw.heap.objs.size
 zJ:∀b o,X.base.get? b=some o->b∉X.ex
 AH:∀b∈X.ex,b∉X.fs
 mR:X.aw.heap.FunFrames X.base X.outer
 CL:∀b∈X.fs,X.af b=none
structure Inv (X:Cx) (pins:List (Addr×Obj)) (σ:List (Option V)) (H:Hp) (s:Shared):Prop where
 ok:X.Ok
 os:s.os=X.aw.os
 bare:AllBare s.gens
 base:Un X.fs X.ex X.af H X.aw.heap s.heap
 loc:∃m,s.heap.Ns X.env.locals m/\∀(i:Nat) (x:Str) (v:V),X.N[i]?=some x->σ[i]?=some (some v)->kB X.env.scope x->∃u,RelV v u/\Look X.env s.heap m x u
 cell:∀x c,X.env.cells.lookup x=some c->∃v,s.heap.IsCell c v
 free:H X.env.locals=none
 kb:∀x c,X.env.cells.lookup x=some c->H c=none
 pin:∀p∈X.pn++pins,s.heap.get? p.1=some p.2/\H p.1=none/\p.1≠X.env.locals/\p.1∉X.fs/\∀v,p.2.data≠.cell v
 bR:i7 X.prog X.w H s.heap
 len:σ.length=X.N.length
variable {X:Cx}
theorem Cx.Ok.VW(ok:X.Ok)(e:X.base.get? b=some o):b∉X.fs:=λhb=>by
 have:=(ok.mR.mem hb).1;rw[e]at this;cases this
variable {σ:List (Option V)} {pins:List (Addr×Obj)}
variable {s:Shared} in
theorem Inv.bs(I:Inv X pins σ H s):∀b o,X.base.get? b=some o->s.heap.get? b=some o/\H b=none:=λb o e=>
 ⟨I.base.keep b o (I.ok.bs b o e).1 (I.ok.bs b o e).2 (I.ok.VW e) (I.ok.zJ b o e),I.base.free b o (I.ok.bs b o e).1 (I.ok.bs b o e).2 (I.ok.zJ b o e)⟩
variable {s:Shared} in
theorem Inv.bk(I:Inv X pins σ H s):∀b o,X.base.get? b=some o->s.heap.get? b=some o:=λb o e=>(I.bs b o e).1
variable {s:Shared} in
theorem Inv.mod(I:Inv X pins σ H s):Mod X.K X.mg X.base:=I.ok.mod
variable {s:Shared} in
theorem Inv.pY(I:Inv X pins σ H s):X.K.In s.heap:=I.ok.mod.uR.keeps I.bk
variable {s:Shared} in
theorem Inv.nolimit(I:Inv X pins σ H s):s.heap.NoLimit:=I.ok.mod.nolimit.keeps I.bk
variable {s:Shared} in
theorem Inv.lt(I:Inv X pins σ H s):X.env.locals<s.heap.objs.size:=let ⟨_,hn,_⟩:=I.loc;hn.lt
variable {s:Shared} in
theorem Inv.sz(I:Inv X pins σ H s):X.aw.heap.objs.size<=s.heap.objs.size:=le_trans I.ok.above (Nat.le_of_lt I.lt)
variable {s:Shared} in
theorem Inv.VV(I:Inv X pins σ H s)(h:s.heap.objs.size<=a):a∉X.fs:=λhb=>by
 obtain⟨_,o,ho,_⟩:=I.ok.mR.mem hb;exact absurd (lt_of_lt_of_le (lt_size ho) (le_trans I.sz h)) (lt_irrefl _)
variable {s:Shared} in
theorem Inv.AY(I:Inv X pins σ H s):∀x c,X.env.cells.lookup x=some c->c≠X.env.locals:=λx c e z=>by
 obtain⟨v,o,ho,hd⟩:=I.cell x c e;obtain⟨m,⟨o',es,ep,q4,dM,_⟩,_⟩:=I.loc;rw[z,q4]at ho;cases ho;rw[dM]at hd;cases hd
variable {s:Shared} in
theorem Inv.mR(I:Inv X pins σ H s):s.heap.FunFrames X.base X.outer:=by
 have all:∀(l:List Env),(∀b∈mS l,b∈X.fs)->X.aw.heap.FunFrames X.base l->s.heap.FunFrames X.base l:=by
  intro l;induction l with
  |nil=>intro _ _;trivial
  |cons env r ih=>
   intro hs hl;obtain⟨hk,⟨L,o,hf,hn,ho,hd⟩,hr⟩:=hl;have hL:L∈X.fs:=hs L (by unfold mS;rw[List.filterMap_cons,hf];exact mem_cons_self);obtain⟨sl,e⟩:=I.base.slot L o ho (I.ok.CL L hL) hL λz=>I.ok.AH L z hL;exact⟨hk,⟨L,_,hf,hn,e,hd⟩,ih (λb hb=>hs b (by unfold mS;rw[List.filterMap_cons,hf];exact mem_cons_of_mem _ hb)) hr⟩
 exact all X.outer (λ_ hb=>hb) I.ok.mR
variable {s:Shared} in
theorem Inv.stack(I:Inv X pins σ H s):s.heap.FunFrames X.base X.stack:=by
 rcases I.ok.KI with e|⟨e,hf⟩
 ·rw[e];exact I.mR
 ·rw[e];obtain⟨m,hn,_⟩:=I.loc;refine .cons (by rw[I.ok.kind];decide) hf hn ?_ I.mR;exact Heap.get?_none_of_le (le_trans I.ok.B1 I.ok.above)
variable {s:Shared} in
theorem Inv.yQ(I:Inv X pins σ H s):∀b∈mS X.stack,b∈X.env.locals::X.fs:=λb hb=>by
 rcases I.ok.KI with e|⟨e,hf⟩
 ·rw[e]at hb;exact mem_cons_of_mem _ hb
 ·rw[e]at hb;unfold mS at hb;rw[List.filterMap_cons,hf]at hb;exact hb
variable {s:Shared} in
theorem Inv.BV(I:Inv X pins σ H s):∀b∈mS X.stack,H b=none:=λb hb=>by
 rcases mem_cons.mp (I.yQ b hb)with e|hb
 ·rw[e];exact I.free
 ·obtain⟨_,o,ho,_⟩:=I.ok.mR.mem hb;exact I.base.free b o ho (I.ok.CL b hb) λz=>I.ok.AH b z hb
variable {t':Nat} {ch:List Addr}
variable {s:Shared} in
theorem Inv.step{g':Array GenState}{d':Drawn}(I:Inv X pins σ H s)(q9:∀b∈ch,(b∈X.ex\/X.aw.heap.objs.size<=b)/\b≠X.env.locals/\(∀x c,X.env.cells.lookup x=some c->c≠b)/\∀p∈X.pn++pins,p.1≠b)(keep:∀b o,b≠X.env.locals->b∉X.fs->b∉ch->s.heap.get? b=some o->H b=none->h'.get? b=some o)(slot:∀b o,b≠X.env.locals->b∈X.fs->b∉ch->s.heap.get? b=some o->H b=none->∃sl,h'.get? b=some {o with slots:=sl})(free:∀b o,b∉ch->s.heap.get? b=some o->H b=none->H' b=none)(there:∀b o,b∉ch->s.heap.get? b=some o->∃o',h'.get? b=some o')(nM:∀b xs,H b=some (.tup xs)->H' b=some (.tup xs))(f7:∀b o u,H b=some (.qa o u)->H' b=some (.qa o u))(nO:∀b ps,H b=some (.yM ps)->∃more,H' b=some (.yM (ps++more)))(ns:∀m,s.heap.Ns X.env.locals m->h'.Ns X.env.locals m)(bR:i7 X.prog X.w H' h')(hg:AllBare g'):
  Inv X pins σ H' {s with heap:=h',gens:=g',drawn:=d',toks:=t'}:=by
 have TM:∀b o,X.aw.heap.get? b=some o->b≠X.env.locals:=λb o e=>ne_of_lt (lt_of_lt_of_le (lt_size e) I.ok.above);have xt:∀b o,X.aw.heap.get? b=some o->b∉X.ex->b∉ch:=λb o e hx hb=>by
  rcases(q9 b hb).1 with z|z
  ·exact hx z
  ·exact absurd (lt_of_lt_of_le (lt_size e) z) (lt_irrefl _)
 have cellK:∀x c,X.env.cells.lookup x=some c->∀v,s.heap.IsCell c v->h'.IsCell c v:=λx c e v aM=>by
  obtain⟨o,ho,hd⟩:=aM;have GG:c∉ch:=λz=>(q9 c z).2.2.1 x c e rfl;by_cases hc:c∈X.fs
  ·obtain⟨sl,q⟩:=slot c o (I.AY x c e) hc GG ho (I.kb x c e);exact⟨_,q,hd⟩
  ·exact⟨o,keep c o (I.AY x c e) hc GG ho (I.kb x c e),hd⟩
 refine⟨I.ok,I.os,hg,⟨λb o e n hb hx=>?_,λb o e n hb hx=>?_,λb o e n hx=>?_,λb o e hx=>?_,λb xs e=>nM b xs (I.base.nM b xs e),λb o xs e=>f7 b o xs (I.base.f7 b o xs e),λb ps e=>?_⟩,?_,λx c e=>?_,?_,λx c e=>?_,λp hp=>?_,bR,I.len⟩
 ·exact keep b o (TM b o e) hb (xt b o e hx) (I.base.keep b o e n hb hx) (I.base.free b o e n hx)
 ·obtain⟨sl,e1⟩:=I.base.slot b o e n hb hx;obtain⟨Ts,e2⟩:=slot b _ (TM b o e) hb (xt b o e hx) e1 (I.base.free b o e n hx);exact⟨Ts,e2⟩
 ·obtain⟨o',e1⟩:=I.base.there b o e hx;exact free b o' (xt b o e hx) e1 (I.base.free b o e n hx)
 ·obtain⟨o',e1⟩:=I.base.there b o e hx;exact there b o' (xt b o e hx) e1
 ·obtain⟨m1,e1⟩:=I.base.nO b ps e;obtain⟨m2,e2⟩:=nO b _ e1;exact⟨m1++m2,by rw[e2,Array.append_assoc]⟩
 ·obtain⟨m,hn,hl⟩:=I.loc;refine⟨m,ns m hn,λi x v e1 e2 e3=>?_⟩;obtain⟨u,r,l⟩:=hl i x v e1 e2 e3;refine⟨u,r,?_⟩;rcases l with l|⟨k,c,e,z⟩
  ·exact .inl l
  ·exact .inr ⟨k,c,e,cellK x c e _ z⟩
 ·obtain⟨v,z⟩:=I.cell x c e;exact⟨v,cellK x c e v z⟩
 ·obtain⟨m,⟨o,_,_,ho,_⟩,_⟩:=I.loc;exact free _ o (λz=>(q9 _ z).2.1 rfl) ho I.free
 ·obtain⟨v,o,ho,hd⟩:=I.cell x c e;exact free c o (λz=>(q9 c z).2.2.1 x c e rfl) ho (I.kb x c e)
 ·obtain⟨e,n,ne,nf,d⟩:=I.pin p hp;have GG:p.1∉ch:=λz=>(q9 p.1 z).2.2.2 p hp rfl;exact⟨keep p.1 p.2 ne nf GG e n,free p.1 p.2 GG e n,ne,nf,d⟩
variable {s:Shared} in
theorem Inv.un(I:Inv X pins σ H s)(u:Un X.fs [] H H' s.heap h')(bR:i7 X.prog X.w H' h'):Inv X pins σ H' {s with heap:=h',toks:=t'}:=by
 obtain⟨m,⟨o,es,ep,ho,r⟩,_⟩:=id I.loc;obtain⟨sl,hL⟩:=u.any ho I.free (by simp);exact I.step (g':=s.gens) (d':=s.drawn) (ch:=[]) (λ_ z=>nomatch z) (λb o _ hb _ e n=>u.keep b o e n hb (by simp)) (λb o _ hb _ e n=>u.slot b o e n hb (by simp)) (λb o _ e n=>u.free b o e n (by simp)) (λb o _ e=>u.there b o e (by simp)) u.nM u.f7 u.nO (λm' hm=>by
  obtain⟨o',CP,HC,q4,r'⟩:=hm;rw[ho]at q4;cases q4;exact⟨_,CP,HC,hL,r'⟩) bR I.bare
variable {s:Shared} in
theorem Inv.call{g':Array GenState}{d':Drawn}(I:Inv X pins σ H s)(u:Un (mS X.stack) ch H H' s.heap h')(bR:i7 X.prog X.w H' h')(hg:AllBare g')(q9:∀b∈ch,(b∈X.ex\/X.aw.heap.objs.size<=b)/\b≠X.env.locals/\(∀x c,X.env.cells.lookup x=some c->c≠b)/\∀p∈X.pn++pins,p.1≠b):
  Inv X pins σ H' {s with heap:=h',gens:=g',drawn:=d',toks:=t'}:=by
 obtain⟨m,⟨o,es,ep,ho,r⟩,_⟩:=id I.loc;obtain⟨sl,hL⟩:=u.any ho I.free λz=>(q9 _ z).2.1 rfl;exact I.step (ch:=ch) q9 (λb o hL hb hc e n=>u.keep b o e n (λz=>(mem_cons.mp (I.yQ b z)).elim hL hb) hc) (λb o _ _ hc e n=>u.any e n hc) (λb o hc e n=>u.free b o e n hc) (λb o hc e=>u.there b o e hc) u.nM u.f7 u.nO (λm' hm=>by
  obtain⟨o',CP,HC,q4,r'⟩:=hm;rw[ho]at q4;cases q4;exact⟨_,CP,HC,hL,r'⟩) bR hg
variable {s:Shared} in
theorem Inv.turned{it:Addr}(I:Inv X pins σ H s)(k:∀b o,b≠it->s.heap.get? b=some o->h'.get? b=some o)(hn:H it=none)(hL:it≠X.env.locals)(h1:it∈X.ex\/X.aw.heap.objs.size<=it)(h2:∀x c,X.env.cells.lookup x=some c->c≠it)(h3:∀p∈X.pn++pins,p.1≠it):Inv X pins σ H {s with heap:=h',toks:=t'}:=by
 have TK:∀b u,H b=some u->b≠it:=λb u e z=>by rw[z,hn]at e;cases e
 refine I.step (g':=s.gens) (d':=s.drawn) (ch:=[it]) (λb hb=>?_) (λb o _ _ hc e _=>k b o (λz=>hc (by simp[z])) e) (λb o _ _ hc e _=>⟨o.slots,k b o (λz=>hc (by simp[z])) e⟩) (λ_ _ _ _ n=>n)
  (λb o hc e=>⟨o,k b o (λz=>hc (by simp[z])) e⟩) (λ_ _ e=>e) (λ_ _ _ e=>e) (λb ps e=>⟨#[],by rw[e];simp⟩) (λm hm=>?_) (λb u e=>?_) I.bare
 ·have e:b=it:=by simpa using hb
  subst e;exact⟨h1,hL,h2,h3⟩
 ·obtain⟨o,es,ep,ho,r⟩:=hm;exact⟨o,es,ep,k _ o (Ne.symm hL) ho,r⟩
 ·refine(I.bR b u e).nP (λc v hc q=>k c v ?_ q) (λ_ q=>q) λ_ _ q=>q;rcases hc with z|z
  ·rw[z];exact TK b u e
  ·exact TK c _ z
variable {s:Shared} in
theorem Inv.tok(I:Inv X pins σ H s)(t:Nat):Inv X pins σ H {s with toks:=t}:=I.un (h':=s.heap) (t':=t) Un.refl I.bR
variable {s:Shared} in
theorem Inv.kept(I:Inv X pins σ H s)(k:∀b u,s.heap.get? b=some u->h'.get? b=some u):Inv X pins σ H {s with heap:=h',toks:=t'}:=I.un (Un.kept k) (I.bR.kept k)
variable {s:Shared} in
theorem Inv.laid{o:HO}(I:Inv X pins σ H s)(k:∀b u,s.heap.get? b=some u->h'.get? b=some u)(hp:s.heap.objs.size<=a)(new:gj X.prog X.w (upd H a o) h' a o):
  Inv X pins σ (upd H a o) {s with heap:=h',toks:=t'}:=I.un (Un.laid k hp (I.bR.fresh hp)) (I.bR.laid k hp new)
variable {s:Shared} in
theorem Inv.write{o:HO}(I:Inv X pins σ H s)(mu:M4 (H x))(he:e=x\/H e=some (.own x))(k:∀b u,b≠e->s.heap.get? b=some u->h'.get? b=some u)(CG:∃u,h'.get? e=some u)(new:gj X.prog X.w (upd H x o) h' x o):Inv X pins σ (upd H x o) {s with heap:=h',toks:=t'}:=I.un (Un.write mu he k CG) (I.bR.write mu he k CG new)
variable {s:Shared} in
theorem Inv.weak{bJ:List (Option V)}(I:Inv X pins σ H s)(hl:bJ.length=σ.length)(w:∀(i:Nat) v,bJ[i]?=some (some v)->σ[i]?=some (some v)):Inv X pins bJ H s:=
 ⟨I.ok,I.os,I.bare,I.base,let ⟨m,hn,lA⟩:=I.loc;⟨m,hn,λi x v e1 e2 e3=>lA i x v e1 (w i v e2) e3⟩,I.cell,I.free,I.kb,I.pin,I.bR,hl.trans I.len⟩
variable {s:Shared} in
theorem Inv.oy{pins':List (Addr×Obj)}(I:Inv X pins σ H s)(h:∀p∈pins',s.heap.get? p.1=some p.2/\H p.1=none/\p.1≠X.env.locals/\p.1∉X.fs/\∀v,p.2.data≠.cell v):Inv X pins' σ H s:=
 ⟨I.ok,I.os,I.bare,I.base,I.loc,I.cell,I.free,I.kb,λp hp=>(mem_append.mp hp).elim (λz=>I.pin p (mem_append_left _ z)) (h p),I.bR,I.len⟩
variable {N:List Str} {i:Nat} {x:Str}
theorem zK(hN:N.Nodup){j:Nat}(a:N[i]?=some x)(b:N[j]?=some x):i=j:=by
 obtain⟨h1,e1⟩:=List.getElem?_eq_some_iff.mp a;obtain⟨h2,e2⟩:=List.getElem?_eq_some_iff.mp b;exact(List.getElem_inj hN).mp (e1.trans e2.symm)
variable {M:Model} {A:Around} {E:Value->Shared->Prop} {v:V} {u:Value}
variable {s:Shared} in
theorem xc{Q:Unit->Shared->Prop}(I:Inv X pins σ H s)(hN:X.N.Nodup)(hi:X.N[i]?=some x)(hx:Loc X.env.scope x)(r:RelV v u)(h:∀s',Inv X pins (σ.set i (some v)) H s'->(∃a,SameBut a s.heap s'.heap/\(a=X.env.locals\/X.env.cells.lookup x=some a))->Q () s')(hf:X.fn x=true\/X.env.scope.names.lookup x=some .local:=by first|exact .inl rfl|exact .inr rfl|assumption):wpAny M A (storeName X.env x u) Q E s:=by
 obtain⟨m,hn,hl⟩:=id I.loc;have Wf:(X.env.scope.kind == .class || (X.env.scope.kind == .module&&X.env.locals !=X.env.globals))=false:=by rw[I.ok.kind];rfl
 have Qq:i<σ.length:=by rw[I.len];exact(List.getElem?_eq_some_iff.mp hi).1
 have AY:=I.AY;have tracked:∀{a:Addr} {h':Heap},(∃o,s.heap.get? a=some o/\H a=none)->SameBut a s.heap h'->i7 X.prog X.w H h':=fun{a h'} ha hs b ob e=>by
  obtain⟨_,_,Ln⟩:=ha;refine(I.bR b ob e).nP (λc w' hc q=>(hs.2 c ?_).trans q) (λ_ q=>q) λ_ _ q=>q;rintro rfl;rcases hc with rfl|hc
  ·rw[Ln]at e;cases e
  ·rw[Ln]at hc;cases hc
 rcases hx with hk|hk
 ·refine wpAny_storeName_local hk hn (λh' lP hs=>?_) Wf;obtain⟨oL,_,_,Xr,_⟩:=id hn;refine h _ ⟨I.ok,I.os,I.bare,⟨λb o e n hb hx=>?_,λb o e n hb hx=>?_,I.base.free,λb o e hx=>?_,I.base.nM,I.base.f7,I.base.nO⟩,⟨_,lP,λj y v' e1 e2 e3=>?_⟩,λy c e=>?_,I.free,I.kb,λp hp=>?_,tracked ⟨oL,Xr,I.free⟩ hs,by simpa using I.len⟩ ⟨_,hs,.inl rfl⟩
  ·exact(hs.2 b (ne_of_lt (lt_of_lt_of_le (lt_size e) I.ok.above))).trans (I.base.keep b o e n hb hx)
  ·obtain⟨sl,e1⟩:=I.base.slot b o e n hb hx;exact⟨sl,(hs.2 b (ne_of_lt (lt_of_lt_of_le (lt_size e) I.ok.above))).trans e1⟩
  ·obtain⟨o',e1⟩:=I.base.there b o e hx;exact⟨o',(hs.2 b (ne_of_lt (lt_of_lt_of_le (lt_size e) I.ok.above))).trans e1⟩
  ·by_cases hj:j=i
   ·subst hj;rw[hi]at e1;cases e1;rw[getElem?_set_self Qq]at e2;cases e2;exact⟨u,r,.inl ⟨hk,by simp⟩⟩
   ·rw[getElem?_set_ne (Ne.symm hj)]at e2;obtain⟨u',r',q⟩:=hl j y v' e1 e2 e3;refine⟨u',r',?_⟩;rcases q with⟨k,e⟩|⟨k,c,e,z⟩
    ·refine .inl ⟨k,?_⟩;have:y≠x:=λe=>hj (zK hN e1 (e▸hi));simp[this,e]
    ·exact .inr ⟨k,c,e,z.sameBut hs (AY y c e)⟩
  ·obtain⟨w',z⟩:=I.cell y c e;exact⟨w',z.sameBut hs (AY y c e)⟩
  ·obtain⟨e,n,ne,nf,d⟩:=I.pin p hp;exact⟨(hs.2 p.1 ne).trans e,n,ne,nf,d⟩
 ·have v3:X.fn x=true:=by
   rcases hf with z|z
   ·exact z
   ·rw[z]at hk;cases hk
  obtain⟨c,hc⟩:=I.ok.has x (.inl hk);obtain⟨w',z⟩:=I.cell x c hc;refine wpAny_storeName_cell I.ok.kind hk hc z (λh' jk hs=>?_);obtain⟨oc,U8,W7⟩:=id z;refine h {s with heap:=h'} ⟨I.ok,I.os,I.bare,⟨λb o e n hb hx=>?_,λb o e n hb hx=>?_,I.base.free,λb o e hx=>?_,I.base.nM,I.base.f7,I.base.nO⟩,⟨m,hn.sameBut hs (Ne.symm (AY x c hc)),λj y v' e1 e2 e3=>?_⟩,λy c' e=>?_,I.free,I.kb,λp hp=>?_,tracked ⟨oc,U8,I.kb x c hc⟩ hs,by simpa using I.len⟩ ⟨c,hs,.inr hc⟩
  ·exact(hs.2 b (ne_of_lt (lt_of_lt_of_le (lt_size e) (I.ok.Il x c v3 hc)))).trans (I.base.keep b o e n hb hx)
  ·obtain⟨sl,e1⟩:=I.base.slot b o e n hb hx;exact⟨sl,(hs.2 b (ne_of_lt (lt_of_lt_of_le (lt_size e) (I.ok.Il x c v3 hc)))).trans e1⟩
  ·obtain⟨o',e1⟩:=I.base.there b o e hx;exact⟨o',(hs.2 b (ne_of_lt (lt_of_lt_of_le (lt_size e) (I.ok.Il x c v3 hc)))).trans e1⟩
  ·by_cases hj:j=i
   ·subst hj;rw[hi]at e1;cases e1;rw[getElem?_set_self Qq]at e2;cases e2;exact⟨u,r,.inr ⟨.inl hk,c,hc,jk⟩⟩
   ·rw[getElem?_set_ne (Ne.symm hj)]at e2;obtain⟨u',r',q⟩:=hl j y v' e1 e2 e3;refine⟨u',r',?_⟩;rcases q with q|⟨k,c',e,z'⟩
    ·exact .inl q
    ·refine .inr ⟨k,c',e,z'.sameBut hs ?_⟩;rintro rfl;exact hj (zK hN e1 (I.ok.inj _ _ _ e hc▸hi))
  ·by_cases Hn:c'=c
   ·subst Hn;exact⟨_,jk⟩
   ·obtain⟨w2,z2⟩:=I.cell y c' e;exact⟨w2,z2.sameBut hs Hn⟩
  ·obtain⟨e,n,ne,nf,d⟩:=I.pin p hp;refine⟨(hs.2 p.1 ?_).trans e,n,ne,nf,d⟩;intro q;rw[q,U8]at e;have q':oc=p.2:=Option.some.inj e;exact d w' (by rw[<- q'];exact W7)
variable {s:Shared} in
theorem oW{Q:Unit->Shared->Prop}(I:Inv X pins σ H s)(hN:X.N.Nodup)(hi:X.N[i]?=some x)(hx:Loc X.env.scope x)(r:RelV v u)(h:∀s',Inv X pins (σ.set i (some v)) H s'->Q () s')(hf:X.fn x=true\/X.env.scope.names.lookup x=some .local:=by first|exact .inl rfl|exact .inr rfl|assumption):wpAny M A (storeName X.env x u) Q E s:=
 xc I hN hi hx r (λs' I' _=>h s' I') hf
variable {s':Shared}
variable {s:Shared} in
theorem Inv.LQ(I:Inv X pins σ H s)(ho:s'.os=s.os)(u:Un (mS X.stack) ch H H' s.heap s'.heap)(bR:i7 X.prog X.w H' s'.heap)(hg:AllBare s'.gens)(q9:∀b∈ch,(b∈X.ex\/X.aw.heap.objs.size<=b)/\b≠X.env.locals/\(∀x c,X.env.cells.lookup x=some c->c≠b)/\∀p∈X.pn++pins,p.1≠b):Inv X pins σ H' s':=by
 obtain⟨h',g',d',t',o'⟩:=s';have e:o'=s.os:=ho;subst e;exact I.call (g':=g') (t':=t') (d':=d') u bR hg q9
abbrev XK:=Value->Option Addr->Hp->Prop
abbrev St:=List (Option V)
abbrev VK:=V->Hp->Prop
abbrev TE:=St->Hp->VK->Prop
abbrev TT:=St->Hp->(Bool->Hp->Prop)->Prop
abbrev TA:=St->Hp->(List V->Hp->Prop)->Prop
structure Ends where
 nx:St->Hp->Prop
 rt:VK
 bk:St->Hp->Prop:=λ_ _=>False
 ct:St->Hp->Prop:=λ_ _=>False
abbrev TS:=Ends->St->Hp->Prop
def EP (X:Cx) (pins:List (Addr×Obj)) (σ:St) (Q:VK) (u:Value) (s':Shared):Prop:=∃v H',Inv X pins σ H' s'/\RelV v u/\Q v H'
def TP (X:Cx) (pins:List (Addr×Obj)) (σ:St) (Q:Bool->Hp->Prop) (b:Bool) (s':Shared):Prop:=∃H',Inv X pins σ H' s'/\Q b H'
def AP (X:Cx) (pins:List (Addr×Obj)) (σ:St) (Q:List V->Hp->Prop) (us:List Value) (s':Shared):Prop:=∃vs H',Inv X pins σ H' s'/\Vals vs us/\Q vs H'
def SP (X:Cx) (pins:List (Addr×Obj)) (D:Ends) (f:Flow) (s':Shared):Prop:=
 match f with
 | .next=>∃bJ H',Inv X pins bJ H' s'/\D.nx bJ H'
 | .brk=>∃bJ H',Inv X pins bJ H' s'/\D.bk bJ H'
 | .cont=>∃bJ H',Inv X pins bJ H' s'/\D.ct bJ H'
 | .ret u=>∃v bJ H',Inv X pins bJ H' s'/\RelV v u/\D.rt v H'
def PE (X:Cx) (e:Expr) (t:TE):Prop:=
 ∀(pins:List (Addr×Obj)) (s:Shared) (σ:St) (H:Hp) (Q:VK),Inv X pins σ H s->t σ H Q->wpAny (model X.prog X.w) X.A (eval e X.env) (EP X pins σ Q) X.xe s
def PT (X:Cx) (e:Expr) (t:TT):Prop:=
 ∀(pins:List (Addr×Obj)) (s:Shared) (σ:St) (H:Hp) (Q:Bool->Hp->Prop),Inv X pins σ H s->t σ H Q->wpAny (model X.prog X.w) X.A (isTrue e X.env (eval e X.env)) (TP X pins σ Q) X.xe s
def PW (X:Cx) (e:Expr) (t:TT):Prop:=
 ∀(whole:Sem Value) (pins:List (Addr×Obj)) (s:Shared) (σ:St) (H:Hp) (Q:Bool->Hp->Prop),Inv X pins σ H s->t σ H Q->wpAny (model X.prog X.w) X.A (isTrue e X.env whole) (TP X pins σ Q) X.xe s
variable {e:Expr}
theorem PW.pt{t:TT}(h:PW X e t):PT X e t:=h _
def PA (X:Cx) (es:List Expr) (t:TA):Prop:=
 ∀(pos:Pos) (pins:List (Addr×Obj)) (s:Shared) (σ:St) (H:Hp) (Q:List V->Hp->Prop),Inv X pins σ H s->t σ H Q->wpAny (model X.prog X.w) X.A (spliced (backTo pos (starEach es X.env))) (AP X pins σ Q) X.xe s
def PS (X:Cx) (st:Stmt) (t:TS):Prop:=
 ∀(pins:List (Addr×Obj)) (s:Shared) (σ:St) (H:Hp) (D:Ends),Inv X pins σ H s->t D σ H->wpAny (model X.prog X.w) X.A (exec st X.env) (SP X pins D) X.xe s
def lF (X:Cx) (st:List Stmt) (t:TS):Prop:=
 ∀(pins:List (Addr×Obj)) (s:Shared) (σ:St) (H:Hp) (D:Ends),Inv X pins σ H s->t D σ H->wpAny (model X.prog X.w) X.A (execs st X.env) (SP X pins D) X.xe s
variable {α:Type}
theorem cz{t:Sem α}{Q Q':α->Shared->Prop}{s:Shared}(h:wpAny M A t Q E s)(hQ:∀a s,Q a s->Q' a s):wpAny M A t Q' E s:=wpAny_mono h hQ λ_ _ x=>x
open PySem PySem.Spec PyProof.Rows
def Vz (i:Nat):TE:=λσ H Q=>∃v,σ[i]?=some (some v)/\Q v H
def tC (v:V):TE:=λ_ H Q=>Q v H
variable {pos:Pos}
theorem jT(hN:X.N[i]?=some x)(hv:kB X.env.scope x)(hd:(x==("__debug__" : Str))=false:=by decide)(fG:(x==("__classdict__" : Str))=false:=by decide):PE X (.Name x pos) (Vz i):=by
 intro pins s σ H Q I h;obtain⟨v,e,h⟩:=h;obtain⟨m,hn,hl⟩:=I.loc;obtain⟨u,r,l⟩:=hl i x v hN e hv;have fin:EP X pins σ Q u s:=⟨v,H,I,r,h⟩;rcases l with⟨hk,hm⟩|⟨hk,c,hc,yy⟩
 ·exact wpAny_Name (wpAny_loadName_local I.ok.kind hk hn hm fin) hd
 ·rcases hk with hk|hk
  ·exact wpAny_Name (wpAny_loadName_cell I.ok.kind hk hc yy fin) hd
  ·exact wpAny_Name (wpAny_loadName_free I.ok.kind hk hc yy fin fG) hd
theorem Gm{i j pos}:PE X (.Constant (.int i) j pos) (tC (.int i)):=λ_ _ _ H _ I h=>wpAny_Constant_int ⟨.int i,H,I.tok _,⟨_,rfl⟩,h⟩
theorem Sw{b j pos}:PE X (.Constant (.bool b) j pos) (tC (.bl b)):=λ_ _ _ H _ I h=>Constant_bool ⟨.bl b,H,I,rfl,h⟩
theorem P8{j pos}:PE X (.Constant .none j pos) (tC .bW):=λ_ _ _ H _ I h=>Constant_none ⟨.bW,H,I,rfl,h⟩
theorem P5{x j pos}:PE X (.Constant (.str x) j pos) (tC (.str x)):=λ_ _ _ H _ I h=>Calls.Constant_str ⟨.str x,H,I.tok _,⟨_,rfl⟩,h⟩
def Gl (X:Cx) (x:Str):Prop:=X.env.kindOf x=some .globalImplicit
theorem Cy{s:Shared}{σ:St}{Q:Value->Shared->Prop}(I:Inv X pins σ H s)(hg:Gl X x)(hm:X.mg x=some u)(h:Q u s)(hd:(x==("__debug__" : Str))=false:=by decide):wpAny (model X.prog X.w) X.A (eval (.Name x pos) X.env) Q E s:=
 Calls.Name_function_global I.ok.kind hg (Calls.loadGlobal_global (by rw[I.ok.glob];exact I.mod.glob.keeps I.bk) hm h) hd
theorem oB{s:Shared}{σ:St}{Q:Value->Shared->Prop}(I:Inv X pins σ H s)(hg:Gl X x)(hm:X.mg x=none)(hv:bootBuiltins x=some u)(h:Q u s)(hn:x≠"__name__":=by decide)(hd:(x==("__debug__" : Str))=false:=by decide):wpAny (model X.prog X.w) X.A (eval (.Name x pos) X.env) Q E s:=by
 obtain⟨mb,h1,h2⟩:=I.mod.blt;exact Calls.Name_function_global I.ok.kind hg (Calls.loadGlobal_builtin (by rw[I.ok.glob];exact I.mod.glob.keeps I.bk) hm (by rw[I.ok.blt];exact h1.keeps I.bk) ((h2 x hn).trans hv) h) hd
theorem MW(hg:Gl X x)(hm:X.mg x=some u)(r:RelV v u)(hd:(x==("__debug__" : Str))=false:=by decide):PE X (.Name x pos) (tC v):=
 λ_ _ _ H _ I h=>Cy I hg hm ⟨v,H,I,r,h⟩ hd
theorem MX(hg:Gl X x)(hm:X.mg x=none)(hv:bootBuiltins x=some u)(r:RelV v u)(hn:x≠"__name__":=by decide)(hd:(x==("__debug__" : Str))=false:=by decide):PE X (.Name x pos) (tC v):=
 λ_ _ _ H _ I h=>oB I hg hm hv ⟨v,H,I,r,h⟩ hn hd
def VL (t u:TT):TT:=λσ H Q=>t σ H λc H1=>if c=true then u σ H1 Q else Q false H1
def WR (t u:TT):TT:=λσ H Q=>t σ H λc H1=>if c=true then Q true H1 else u σ H1 Q
def VF (t:TT):TT:=λσ H Q=>t σ H λc H1=>Q (!c) H1
variable {a:Expr} {tA:TT}
theorem C8(ha:PT X a tA):PW X (.BoolOp .And [a] pos) tA:=by
 intro wh pins s σ H Q I h;refine isTrue_and (cz (ha pins s σ H Q I h) λc s1 e=>?_);cases c with
 |true=>exact isTrue_and_nil e
 |false=>exact e
theorem OX(ha:PT X a tA):PW X (.BoolOp .Or [a] pos) tA:=by
 intro wh pins s σ H Q I h;refine isTrue_or (cz (ha pins s σ H Q I h) λc s1 e=>?_);cases c with
 |false=>exact isTrue_or_nil e
 |true=>exact e
variable {KG:TT} {b:Expr}
variable {rest:List Expr} in
theorem Gb(ha:PT X a tA)(hb:PW X (.BoolOp .And (b::rest) pos) KG):PW X (.BoolOp .And (a::b::rest) pos) (VL tA KG):=by
 intro wh pins s σ H Q I h;refine isTrue_and (cz (ha pins s σ H _ I h) λc s1 ⟨H1,I1,q1⟩=>?_);cases c with
 |true=>exact hb wh pins s1 σ H1 Q I1 q1
 |false=>exact⟨H1,I1,q1⟩
variable {rest:List Expr} in
theorem Sq(ha:PT X a tA)(hb:PW X (.BoolOp .Or (b::rest) pos) KG):PW X (.BoolOp .Or (a::b::rest) pos) (WR tA KG):=by
 intro wh pins s σ H Q I h;refine isTrue_or (cz (ha pins s σ H _ I h) λc s1 ⟨H1,I1,q1⟩=>?_);cases c with
 |true=>exact⟨H1,I1,q1⟩
 |false=>exact hb wh pins s1 σ H1 Q I1 q1
theorem Gf(ha:PT X a tA):PT X (.UnaryOp .Not a pos) (VF tA):=by
 intro pins s σ H Q I h;exact isTrue_not (ha pins s σ H (λc H1=>Q (!c) H1) I h)
variable {tb ta:TE}
def Si (ta tb:TE):TE:=λσ H Q=>ta σ H λx H1=>∃c,x=.bl c/\if c=true then tb σ H1 Q else Q (.bl false) H1
def VE (ta tb:TE):TE:=λσ H Q=>ta σ H λx H1=>∃c,x=.bl c/\if c=true then Q (.bl true) H1 else tb σ H1 Q
def Sa (ta:TE):TE:=λσ H Q=>ta σ H λx H1=>∃c,x=.bl c/\Q (.bl (!c)) H1
theorem P6{op}{t:TE}(h:PE X a t):PE X (.BoolOp op [a] pos) t:=λpins s σ H Q I hw=>BoolOp_one (h pins s σ H Q I hw)
variable {rest:List Expr} in
theorem P9(ha:PE X a ta)(hb:PE X (.BoolOp .And (b::rest) pos) tb):PE X (.BoolOp .And (a::b::rest) pos) (Si ta tb):=by
 intro pins s σ H Q I h;refine BoolOp_and (cz (ha pins s σ H _ I h) λv s1 ⟨x,H1,I1,r1,q1⟩=>?_);obtain⟨c,rfl,q1⟩:=q1;cases r1;refine wpAny_truthy_bool ?_;cases c with
 |true=>exact hb pins s1 σ H1 Q I1 q1
 |false=>exact⟨.bl false,H1,I1,rfl,q1⟩
variable {rest:List Expr} in
theorem Sv(ha:PE X a ta)(hb:PE X (.BoolOp .Or (b::rest) pos) tb):PE X (.BoolOp .Or (a::b::rest) pos) (VE ta tb):=by
 intro pins s σ H Q I h;refine BoolOp_or (cz (ha pins s σ H _ I h) λv s1 ⟨x,H1,I1,r1,q1⟩=>?_);obtain⟨c,rfl,q1⟩:=q1;cases r1;refine wpAny_truthy_bool ?_;cases c with
 |false=>exact hb pins s1 σ H1 Q I1 q1
 |true=>exact⟨.bl true,H1,I1,rfl,q1⟩
theorem P7(ha:PE X a ta):PE X (.UnaryOp .Not a pos) (Sa ta):=by
 intro pins s σ H Q I h;refine UnaryOp_ (cz (ha pins s σ H _ I h) λv s1 ⟨x,H1,I1,r1,q1⟩=>?_);obtain⟨c,rfl,q1⟩:=q1;cases r1;exact not_of (wpAny_truthy_bool ⟨.bl (!c),H1,I1,rfl,q1⟩)
def WS (t:TT) (ta tb:TE):TE:=λσ H Q=>t σ H λc H1=>if c=true then ta σ H1 Q else tb σ H1 Q
variable {c:Expr}
theorem Jh(hc:PT X c tA)(ha:PE X a ta)(hb:PE X b tb):PE X (.IfExp c a b pos) (WS tA ta tb):=by
 intro pins s σ H Q I h;refine wpAny_IfExp (cz (hc pins s σ H _ I h) λd s1 ⟨H1,I1,q1⟩=>?_);cases d with
 |true=>exact ha pins s1 σ H1 Q I1 q1
 |false=>exact hb pins s1 σ H1 Q I1 q1
open PySem PySem.Spec PyProof.Rows
def fk (K:Frag) (H:Hp) (a:Addr) (xs:List V):Prop:=
 Rd H a (.lst xs)\/
  ∃(o:Obj) (aq:Array Value) (n:Nat),K.lookup a=some o/\o.cls=.type "list"/\o.dict=none/\o.data=.seq aq n/\aq.size<=sizeLine/\Vals xs aq.toList
def j6 (K:Frag) (H:Hp) (a:Addr) (xs:List V):Prop:=
 Rd H a (.tup xs)\/
  ∃(o:Obj) (aq:Array Value) (n:Nat),K.lookup a=some o/\o.cls=.type "tuple"/\o.data=.seq aq n/\aq.size<=sizeLine/\Vals xs aq.toList
def WA:Value->Option V
 | .none=>some .bW
 | .bool b=>some (.bl b)
 | .int i _=>some (.int i)
 | .str x _=>some (.str x)
 | .bytes b _=>some (.mY b)
 | .float b _=>some (.QU b)
 | .ref a=>some (.ref a)
 | .type n=>some (.ty n)
 |_=>none
theorem RelV.abs{x:V}(r:RelV x u):WA u=some x:=by
 cases x with
 |bW=>cases r;rfl
 |bl _=>cases r;rfl
 |int _=>obtain⟨t,rfl⟩:=r;rfl
 |str _=>obtain⟨t,rfl⟩:=r;rfl
 |mY _=>obtain⟨t,rfl⟩:=r;rfl
 |QU _=>obtain⟨t,rfl⟩:=r;rfl
 |ref _=>cases r;rfl
 |ty _=>cases r;rfl
theorem RelV.inj{x y:V}(r:RelV x u)(q:RelV y u):x=y:=Option.some.inj (r.abs.symm.trans q.abs)
theorem Vals.inj:∀{xs ys:List V} {us:List Value},Vals xs us->Vals ys us->xs=ys
 |_,_,_,.nil,.nil=>rfl
 |_,_,_,.cons r t,.cons r' t'=>by rw[r.inj r',Vals.inj t t']
variable {a:Addr} {K:Frag}
theorem fk.of(h:H a=some (.lst xs)):fk K H a xs:=.inl (.inl h)
variable {σ:St}
variable {s:Shared} in
theorem Inv.list(I:Inv X pins σ H s)(h:fk X.K H a xs):∃aq:List Value,Vals xs aq/\PlainL s.heap a aq.toArray/\xs.length<=sizeLine:=by
 rcases h with h|⟨o,aq,n,hk,hc,hd,hs,hz,r⟩
 ·obtain⟨z,aq,n,r,e⟩:=h.ok I.bR;exact⟨aq,r,⟨_,n,e,rfl,rfl,rfl⟩,z⟩
 ·refine⟨aq.toList,r,⟨o,n,I.pY a o hk,hc,hd,by simpa using hs⟩,?_⟩;have e:=r.length;simp only[length_toList]at e;omega
variable {s:Shared} in
theorem Inv.tuple(I:Inv X pins σ H s)(h:j6 X.K H a xs):∃aq:List Value,Vals xs aq/\IsTup s.heap a aq.toArray/\xs.length<=sizeLine:=by
 rcases h with h|⟨o,aq,n,hk,hc,hs,hz,r⟩
 ·obtain⟨z,aq,r,p⟩:=h.ok I.bR;exact⟨aq,r,p,z⟩
 ·refine⟨aq.toList,r,⟨o,I.pY a o hk,hc,n,by simpa using hs⟩,?_⟩;have e:=r.length;simp only[length_toList]at e;omega
variable {ys:List V}
variable {s:Shared} in
theorem Inv.tQ(I:Inv X pins σ H s)(h:fk X.K H a xs)(h':fk X.K H a ys):xs=ys:=by
 obtain⟨aq,r,⟨o,n,e,_,_,d⟩,_⟩:=I.list h;obtain⟨its',r',⟨o',n',e',_,_,d'⟩,_⟩:=I.list h';rw[e]at e';cases e';rw[d]at d';injection d' with d1 _;have:aq=its':=by simpa using congrArg toList d1
 subst this;exact r.inj r'
variable {s:Shared} in
theorem Inv.xa(I:Inv X pins σ H s)(h:j6 X.K H a xs)(h':j6 X.K H a ys):xs=ys:=by
 obtain⟨aq,r,⟨o,e,_,n,d⟩,_⟩:=I.tuple h;obtain⟨its',r',⟨o',e',_,n',d'⟩,_⟩:=I.tuple h';rw[e]at e';cases e';rw[d]at d';injection d' with d1 _;have:aq=its':=by simpa using congrArg toList d1
 subst this;exact r.inj r'
abbrev Cx.nL (X:Cx) (E:Value->Shared->Prop):Cx:={X with xe:=E}
abbrev Cx.ly (X:Cx):Cx:=X.nL λ_ _=>False
theorem Cx.Ok.nL(ok:X.Ok)(E:Value->Shared->Prop):(X.nL E).Ok:=
 ⟨ok.mod,ok.kind,ok.glob,ok.blt,ok.above,ok.inj,ok.has,ok.Il,ok.hd,ok.frames,ok.KI,ok.LI,ok.bs,ok.B1,ok.zJ,ok.AH,ok.mR,ok.CL⟩
theorem Cx.Ok.lr(ok:(X.nL E).Ok):X.Ok:=
 ⟨ok.mod,ok.kind,ok.glob,ok.blt,ok.above,ok.inj,ok.has,ok.Il,ok.hd,ok.frames,ok.KI,ok.LI,ok.bs,ok.B1,ok.zJ,ok.AH,ok.mR,ok.CL⟩
variable {s:Shared} in
theorem Inv.nL(I:Inv X pins σ H s)(E:Value->Shared->Prop):Inv (X.nL E) pins σ H s:=⟨I.ok.nL E,I.os,I.bare,I.base,I.loc,I.cell,I.free,I.kb,I.pin,I.bR,I.len⟩
variable {s:Shared} in
theorem Inv.lr(I:Inv (X.nL E) pins σ H s):Inv X pins σ H s:=⟨I.ok.lr,I.os,I.bare,I.base,I.loc,I.cell,I.free,I.kb,I.pin,I.bR,I.len⟩
variable {D:Ends}
theorem SP.lr{f:Flow}(h:SP (X.nL E) pins D f s'):SP X pins D f s':=by
 cases f with
 |next=>obtain⟨bJ,H',I,q⟩:=h;exact⟨bJ,H',I.lr,q⟩
 |brk=>obtain⟨bJ,H',I,q⟩:=h;exact⟨bJ,H',I.lr,q⟩
 |cont=>obtain⟨bJ,H',I,q⟩:=h;exact⟨bJ,H',I.lr,q⟩
 |ret u=>obtain⟨v,bJ,H',I,r,q⟩:=h;exact⟨v,bJ,H',I.lr,r,q⟩
variable {t:TS}
theorem lF.ly{st:List Stmt}(h:lF X.ly st t):lF X st t:=λpins s σ H D I hw=>
 wpAny_mono (h pins s σ H D (I.nL _) hw) (λ_ _ q=>q.lr) λ_ _ z=>False.elim z
def Sb:TS:=λD σ H=>D.nx σ H
variable {u:TS}
def VB (t u:TS):TS:=λD σ H=>t {D with nx:=u D} σ H
theorem Ca:lF X [] Sb:=λ_ _ σ H _ I h=>wpAny_execs_nil ⟨σ,H,I,h⟩
variable {st:Stmt}
variable {rest:List Stmt} in
theorem zu(h1:PS X st t)(h2:lF X rest u):lF X (st::rest) (VB t u):=by
 intro pins s σ H D I h;refine wpAny_execs_cons (cz (h1 pins s σ H {D with nx:=u D} I h) λf s1 q=>?_);cases f with
 |next=>
  obtain⟨bJ,H',I',q⟩:=q;exact h2 pins s1 bJ H' D I' q
 |ret v=>exact q
 |brk=>exact q
 |cont=>exact q
theorem w4(h1:PS X st t):lF X [st] t:=by
 intro pins s σ H D I h;refine wpAny_execs_cons (cz (h1 pins s σ H D I h) λf s1 q=>?_);cases f with
 |next=>exact wpAny_execs_nil q
 |ret v=>exact q
 |brk=>exact q
 |cont=>exact q
theorem Inv.quiet{σ:St}{s:Shared}(I:Inv X pins σ H s):interactive X.env=false:=by simp[interactive,I.ok.kind]
variable {te:TE}
def Sf (te:TE):TS:=λD σ H=>te σ H λ_ H1=>D.nx σ H1
theorem w5(he:PE X e te)(hs:swapsWith e none pos.line X.env=pure false:=by rfl):PS X (.Expr e pos) (Sf te):=by
 intro pins s σ H D I h;exact wpAny_Expr_any (cz (he pins s σ H _ I h) λv s1 ⟨x,H1,I1,r1,q1⟩=>⟨σ,H1,I1,q1⟩) I.quiet hs
def VC (te:TE):TS:=λD σ H=>te σ H D.rt
theorem qB(he:PE X e te):PS X (.Return (some e) pos) (VC te):=by
 intro pins s σ H D I h;exact wpAny_Return_some (cz (he pins s σ H _ I h) λv s1 ⟨x,H1,I1,r1,q1⟩=>⟨x,σ,H1,I1,r1,q1⟩)
def VI (c:TT) (t u:TS):TS:=λD σ H=>c σ H λb H1=>if b=true then t D σ H1 else u D σ H1
theorem DW{a b:List Stmt}{tc:TT}(hc:PT X c tc)(ha:lF X a t)(hb:lF X b u):PS X (.If c a b pos) (VI tc t u):=by
 intro pins s σ H D I h;refine wpAny_If (cz (hc pins s σ H _ I h) λd s1 ⟨H1,I1,q1⟩=>?_);cases d with
 |true=>exact ha pins s1 σ H1 D I1 q1
 |false=>exact hb pins s1 σ H1 D I1 q1
abbrev TG:=V->St->Hp->(St->Hp->Prop)->Prop
abbrev qc:=List V->St->Hp->(St->Hp->Prop)->Prop
def PG (X:Cx) (target:Expr) (t:TG):Prop:=
 ∀(pins:List (Addr×Obj)) (s:Shared) (σ:St) (H:Hp) (v:V) (u:Value) (Q:St->Hp->Prop),Inv X pins σ H s->RelV v u->t v σ H Q->
  wpAny (model X.prog X.w) X.A (assign target X.env u) (λ_ s'=>∃bJ H',Inv X pins bJ H' s'/\Q bJ H') X.xe s
def vC (X:Cx) (ts:List Expr) (t:qc):Prop:=
 ∀(pins:List (Addr×Obj)) (s:Shared) (σ:St) (H:Hp) (vs:List V) (us:List Value) (Q:St->Hp->Prop),Inv X pins σ H s->Vals vs us->t vs σ H Q->
  wpAny (model X.prog X.w) X.A (assignInOrder ((assignEach ts X.env).map (·.2)) us) (λ_ s'=>∃bJ H',Inv X pins bJ H' s'/\Q bJ H') X.xe s
abbrev ES:=V->V->V->Hp->(Hp->Prop)->Prop
def Kj (X:Cx) (t:ES):Prop:=
 ∀(pins:List (Addr×Obj)) (s:Shared) (σ:St) (H:Hp) (o i v:V) (ov iv u:Value) (Q:Hp->Prop),Inv X pins σ H s->RelV o ov->RelV i iv->RelV v u->t o i v H Q->
  wpAny (model X.prog X.w) X.A (setItem ov iv u) (λ_ s'=>∃H',Inv X pins σ H' s'/\Q H') X.xe s
def Eo (i:Nat):TG:=λv σ H Q=>Q (σ.set i (some v)) H
theorem Cc(hN:X.N.Nodup)(hi:X.N[i]?=some x)(hx:Loc X.env.scope x)(hf:X.fn x=true\/X.env.scope.names.lookup x=some .local:=by first|exact .inl rfl|exact .inr rfl|assumption):PG X (.Name x pos) (Eo i):=by
 intro pins s σ H v u Q I r h;exact wpAny_assign_Name (oW I hN hi hx r (λs' I'=>⟨_,H,I',h⟩) hf)
def Wn:qc:=λvs σ H Q=>vs=[]/\Q σ H
def SX (t:TG) (u:qc):qc:=λvs σ H Q=>∃v r,vs=v::r/\t v σ H λbJ H'=>u r bJ H' Q
theorem MS:vC X [] Wn:=by
 intro pins s σ H vs us Q I r h;obtain⟨e,h⟩:=h;subst e;cases r;exact assignInOrder_nil ⟨σ,H,I,h⟩
variable {es:List Expr}
theorem Je{t:TG}{u:qc}(h1:PG X e t)(h2:vC X es u)(hs:(assignEach (e::es) X.env).map (·.2)=assign e X.env::(assignEach es X.env).map (·.2):=by rfl):vC X (e::es) (SX t u):=by
 intro pins s σ H vs us Q I r h;obtain⟨v,vr,e1,h⟩:=h;subst e1;cases r with
 |cons r rr=>
  rw[hs];refine assignInOrder_cons (cz (h1 pins s σ H _ _ _ I r h) λ_ s1 ⟨BJ,H1,I1,q1⟩=>?_);exact h2 pins s1 BJ H1 _ _ Q I1 rr q1
def Wl (K:Frag) (n:Nat) (t:qc):TG:=λv σ H Q=>∃a xs,v=.ref a/\j6 K H a xs/\xs.length=n/\t xs σ H Q
theorem Gh{k:Nat}{t:qc}{n:Nat}(hc:X.calm=true)(h:vC X es t)(hn:(assignEach es X.env).length=n:=by rfl)(hst:(assignEach es X.env).findIdx? (·.1)=none:=by rfl):PG X (.Tuple es k pos) (Wl X.K n t):=by
 intro pins s σ H v u Q I r hw;obtain⟨a,xs,e1,hq,hl,hw⟩:=hw;subst e1;cases r;obtain⟨aq,rv,ht,hz⟩:=I.tuple hq;refine assign_Tuple_tuple (I.ok.hd hc) ht (by simp[hn,<- hl,rv.length]) hst λh' hx=>?_;have I1:Inv X pins σ H {s with heap:=h'}:=I.kept (t':=s.toks) λb o e=>hx b o (ne_of_lt (lt_size e)) e;exact h pins _ σ H xs _ Q I1 (by simpa using rv) hw
def Wm (to ti:TE) (t:ES):TG:=λv σ H Q=>to σ H λo H1=>ti σ H1 λi H2=>t o i v H2 λH3=>Q σ H3
theorem zz{o i:Expr}{to ti:TE}{t:ES}(ho:PE X o to)(hi:PE X i ti)(hs:Kj X t)(ha:∀v,assign (.Subscript o i pos) X.env v=(do
   let ov <- holding [v] (eval o X.env);let iv <- holding [v,ov] (eval i X.env);standAt pos
   holding [v,ov,iv] (setItem ov iv v)
   release [v,ov,iv] []):=by intro _;rfl):PG X (.Subscript o i pos) (Wm to ti t):=by
 intro pins s σ H v u Q I r h;rw[ha];refine wpAny_bind (wpAny_holding (cz (ho pins s σ H _ I h) λov s1 ⟨x,H1,I1,r1,q1⟩=>?_));refine wpAny_bind (wpAny_holding (cz (hi pins s1 σ H1 _ I1 q1) λiv s2 ⟨y,H2,I2,r2,q2⟩=>?_));refine wpAny_bind (wpAny_standAt (wpAny_bind (wpAny_holding (cz (hs pins s2 σ H2 x y v ov iv u _ I2 r1 r2 r q2) λ_ s3 ⟨H3,I3,q3⟩=>?_))));exact wpAny_release ⟨σ,H3,I3,q3⟩
def IM (te:TE) (g:TG):TS:=λD σ H=>te σ H λx H1=>g x σ H1 D.nx
variable {tg:Expr}
theorem qE{g:TG}(he:PE X e te)(hg:PG X tg g)(hs:swapsWithSole [tg] e pos.line X.env=pure false:=by rfl)(hw:swappedStores [tg] e X.env=pure none:=by rfl)(h1:(assignEach [tg] X.env).map (·.2)=[assign tg X.env]:=by rfl):PS X (.Assign [tg] e pos) (IM te g):=by
 intro pins s σ H D I h;refine wpAny_Assign_stores (cz (he pins s σ H _ I h) λv s1 ⟨x,H1,I1,r1,q1⟩=>?_) hs hw;rw[h1];exact cz (hg pins s1 σ H1 x v _ I1 r1 q1) λ_ s2 q=>q
variable {pos':Pos}
theorem qA(hN:X.N.Nodup)(hi:X.N[i]?=some x)(hx:Loc X.env.scope x)(he:PE X e te)(hs:swapsWith e (some (.Name x pos')) pos.line X.env=pure false:=by rfl)(hf:X.fn x=true\/X.env.scope.names.lookup x=some .local:=by first|exact .inl rfl|exact .inr rfl|assumption):
  PS X (.Assign [.Name x pos'] e pos) (IM te (Eo i)):=by
 intro pins s σ H D I h;refine wpAny_Assign_Name (cz (he pins s σ H _ I h) λv s1 ⟨y,H1,I1,r1,q1⟩=>?_) hs;exact oW I1 hN hi hx r1 (λs2 I2=>⟨_,H1,I2,q1⟩) hf
def VD (i j:Nat) (ta:TA):TS:=λD σ H=>ta σ H λvs H1=>∃v w,vs=[v,w]/\D.nx ((σ.set i (some v)).set j (some w)) H1
variable {a:Expr} {px:Pos}
theorem OZ{j:Nat}{y:Str}{ta:TA}{py pt:Pos}{kt k2 zo}(hc:X.calm=true)(hN:X.N.Nodup)(hi:X.N[i]?=some x)(hj:X.N[j]?=some y)(CF:i≠j)(hx:X.env.scope.names.lookup x=some .local)(hy:X.env.scope.names.lookup y=some .local)(ha:PA X [a,b] ta)(hw:swappedStores [.Tuple [.Name x px,.Name y py] kt pt] (.Tuple [a,b] k2 zo) X.env=pure (some [x,y]))(hs:swapsWithSole [.Tuple [.Name x px,.Name y py] kt pt] (.Tuple [a,b] k2 zo) pos.line X.env=pure false:=by rfl):
  PS X (.Assign [.Tuple [.Name x px,.Name y py] kt pt] (.Tuple [a,b] k2 zo) pos) (VD i j ta):=by
 intro pins s σ H D I h;rw[exec_Assign_arm];refine wpAny_bind (wpAny_standAt ?_);rw[hs];refine wpAny_bind (wpAny_pure ?_);rw[if_neg (by decide)];refine wpAny_bind (Tuple_ (cz (ha _ pins s σ H _ I h) λus s1 ⟨vs,H1,I1,r1,q1⟩=>?_));obtain⟨v,w,e1,q1⟩:=q1;subst e1;obtain⟨u1,u2,rfl,rv,qx⟩:∃u1 u2,us=[u1,u2]/\RelV v u1/\RelV w u2:=by
  cases r1 with
  |cons p q=>
   cases q with
   |cons p' q'=>
    cases q';exact⟨_,_,rfl,p,p'⟩
 refine wpAny_newObj_type ?_ (by show 2<=sizeLine;decide);have I2:Inv X pins σ H1 {s1 with heap:=s1.heap.push {cls:=.type "tuple",data:=.seq [u1,u2].toArray}}:=I1.kept (t':=s1.toks) λb o e=>get?_push_of_some _ e;rw[hw];refine wpAny_bind (wpAny_pure ?_);show wpAny (model X.prog X.w) X.A (do rule "assign.swapped-stores";let items <- unpackItems (.ref s1.heap.objs.size) 2 none;assignInOrder [λv=>bindName X.env y v,λv=>bindName X.env x v] items.reverse;pure Flow.next) _ _ _
 refine wpAny_bind (wpAny_rule (wpAny_bind (unpackItems_tuple (items:=#[u1,u2]) (I.ok.hd hc) (IsTup.new s1.heap _) λh' zZ=>?_)));have I3:=I2.kept (h':=h') (t':=s1.toks) λb o e=>zZ b o (ne_of_lt (lt_size e)) e;show wpAny _ _ (assignInOrder [λv=>bindName X.env y v,λv=>bindName X.env x v] [u2,u1] >>= λ_=>pure Flow.next) _ _ _
 refine wpAny_bind (assignInOrder_cons (wpAny_bindName (oW I3 hN hj (.inl hy) qx (λs2 I4=>?_) (.inr hy))));refine assignInOrder_cons (wpAny_bindName (oW I4 hN hi (.inl hx) rv (λs3 I5=>assignInOrder_nil (wpAny_pure ?_)) (.inr hx)));rw[List.set_comm _ _ (Ne.symm CF)]at I5;exact⟨_,H1,I5,q1⟩
def Om (c:TT) (tb:TS):TS:=λD σ H=>∃W:Nat->St->Hp->Prop,(∃m,W m σ H)/\∀m σ H,W m σ H->
 c σ H λb H1=>if b=true then ∃N:St->Hp->Prop,(∀bJ H',N bJ H'->∃m',m'<m/\W m' bJ H')/\tb {D with nx:=N,ct:=N,bk:=D.nx} σ H1 else D.nx σ H1
variable {body:List Stmt}
theorem J7{tc:TT}{tb:TS}(hp:PassesOwn (model X.prog X.w) X.A X.env X.xe)(hc:PT X c tc)(hb:lF X body tb):PS X (.While c body [] pos) (Om tc tb):=by
 intro pins s σ H D I h;obtain⟨W,⟨m0,w0⟩,turn⟩:=h;refine wpAny_While (codeAny_whileLoop (λn s'=>∃bJ H',Inv X pins bJ H' s'/\W n bJ H') ?_ m0 ⟨σ,H,I,w0⟩);rintro n s1 ⟨BJ,H1,I1,w1⟩;refine wpAny_passesOwn hp (cz (hc pins s1 BJ H1 _ I1 (turn n BJ H1 w1)) λb s2 ⟨H2,I2,q2⟩=>?_);cases b with
 |true=>
  obtain⟨N,hN,q2⟩:=q2;rw[if_pos rfl];refine wpAny_passesOwn hp (cz (hb pins s2 BJ H2 _ I2 q2) λf s3 q3=>?_);cases f with
  |next=>
   obtain⟨qg,H3,I3,n3⟩:=q3;obtain⟨m',hm,w3⟩:=hN qg H3 n3;exact⟨m',hm,qg,H3,I3,w3⟩
  |cont=>
   obtain⟨qg,H3,I3,n3⟩:=q3;obtain⟨m',hm,w3⟩:=hN qg H3 n3;exact⟨m',hm,qg,H3,I3,w3⟩
  |brk=>exact q3
  |ret v=>exact q3
 |false=>
  rw[if_neg Bool.false_ne_true];exact wpAny_execs_nil ⟨BJ,H2,I2,q2⟩
structure It where
 go:Nat->Hp->Prop
 sQ:Nat->Hp->V->Hp->Prop
 stop:Nat->Hp->Prop
def pQ (X:Cx) (pins:List (Addr×Obj)) (H:Hp) (b:Addr):Prop:=
 H b=none/\b≠X.env.locals/\b∉X.fs/\(b∈X.ex\/X.aw.heap.objs.size<=b)/\(∀x c,X.env.cells.lookup x=some c->c≠b)/\∀p∈X.pn++pins,p.1≠b
theorem Inv.Aw{σ:St}{s:Shared}{b:Addr}(I:Inv X pins σ H s)(hb:s.heap.objs.size<=b)(hn:H' b=none):pQ X pins H' b:=by
 refine⟨hn,Nat.ne_of_gt (lt_of_lt_of_le I.lt hb),I.VV hb,.inr (le_trans I.sz hb),λx c e z=>?_,λp hp z=>?_⟩
 ·obtain⟨v,q⟩:=I.cell x c e;exact absurd (lt_of_lt_of_le q.lt (by rw[z];exact hb)) (lt_irrefl _)
 ·exact absurd (lt_of_lt_of_le (lt_size (I.pin p hp).1) (by rw[z];exact hb)) (lt_irrefl _)
structure Turn (P:Program) (w:World) (K:Frag) (tg:Expr) (J:It) (fp:List Addr) (it:Addr) (tn:Nat->Heap->Prop):Prop where
 mem:it∈fp
 obj:∀i h,tn i h->∀b∈fp,∃o,h.get? b=some o/\∀v,o.data≠.cell v
 keep:∀i h h',tn i h->(∀b∈fp,∀o,h.get? b=some o->h'.get? b=some o)->tn i h'
 item:∀(X:Cx),X.prog=P->X.w=w->X.K=K->X.calm=true->∀(i:Nat) (pins:List (Addr×Obj)) (s:Shared) (σ:St) (H:Hp) (E:Value->Shared->Prop),Inv X pins σ H s->(∀b∈fp,pQ X pins H b)->tn i s.heap->J.go i H->
  wpAny (model P w) X.A (pyNext (.ref it)) (λr s1=>∃u,r=some u/\
   wpAny (model P w) X.A (letOwnedTupleGo tg (.ref it) u) (λ_ s2=>∃x H',Inv X pins σ H' s2/\RelV x u/\J.sQ i H x H'/\tn (i+1) s2.heap/\∀b∈fp,H' b=none) E s1) E s
 done:∀(X:Cx),X.prog=P->X.w=w->X.K=K->X.calm=true->∀(i:Nat) (pins:List (Addr×Obj)) (s:Shared) (σ:St) (H:Hp) (E:Value->Shared->Prop),Inv X pins σ H s->(∀b∈fp,pQ X pins H b)->tn i s.heap->J.stop i H->
  wpAny (model P w) X.A (pyNext (.ref it)) (λr s1=>r=none/\Inv X pins σ H s1) E s
 self:∀(A:Around) (i:Nat) (s:Shared) (Q:Value->Shared->Prop) (E:Value->Shared->Prop),tn i s.heap->Q (.ref it) s->wpAny (model P w) A (pyIter (.ref it)) Q E s
abbrev TI:=St->Hp->(It->Hp->Prop)->Prop
def V3 (X:Cx) (pins:List (Addr×Obj)) (σ:St) (tg:Expr) (R:It->Hp->Prop) (Lb:Value) (s2:Shared):Prop:=
 ∃(it:Addr) (fp:List Addr) (tn:Nat->Heap->Prop) (J:It) (H':Hp),Lb=.ref it/\Inv X pins σ H' s2/\Turn X.prog X.w X.K tg J fp it tn/\tn 0 s2.heap/\(∀b∈fp,pQ X pins H' b)/\R J H'
def PI (X:Cx) (tg iter:Expr) (wi:TI):Prop:=
 ∀(pins:List (Addr×Obj)) (s:Shared) (σ:St) (H:Hp) (R:It->Hp->Prop),Inv X pins σ H s->wi σ H R->
  wpAny (model X.prog X.w) X.A (eval iter X.env) (λv s1=>wpAny (model X.prog X.w) X.A (pyIter v) (V3 X pins σ tg R) X.xe s1) X.xe s
theorem Em{s:Shared}{it:Addr}{u:Value}{n:String}{vs:Array Value}{Q:Unit->Shared->Prop}(ho:s.heap.get? it=some o)(hc:o.cls=.type n)(hd:o.data=.fields vs)(hn:["enumerate","zip","dict_itemiterator","dict_reverseitemiterator","odict_iterator","itertools.zip_longest","itertools.pairwise"].contains n=false)(hQ:Q () s):wpAny M A (letOwnedTupleGo tg (.ref it) u) Q E s:=by
 unfold letOwnedTupleGo;cases tg<;>first
  |exact wpAny_pure hQ
  |(cases u<;>first
    |exact wpAny_pure hQ
    |(refine wpAny_bind (wpAny_load ho ?_)
      rw[hc,hd];show wpAny M A (if(["enumerate","zip","dict_itemiterator","dict_reverseitemiterator","odict_iterator","itertools.zip_longest","itertools.pairwise"].contains n&&vs[0]? == some (rawInt _))=true then _ else _) Q E s;rw[if_neg (by intro h;rw[hn,Bool.false_and]at h;cases h)];exact wpAny_pure hQ))
def RI (K:Frag) (a:Addr):It:=
 ⟨λi H=>∃xs x,fk K H a xs/\xs[i]?=some x,λi H x H'=>H'=H/\∀xs,fk K H a xs->xs[i]?=some x,λi H=>∃xs,fk K H a xs/\xs.length<=i⟩
def RH (K:Frag) (a:Addr):It:=
 ⟨λi H=>∃xs x,j6 K H a xs/\xs[i]?=some x,λi H x H'=>H'=H/\∀xs,j6 K H a xs->xs[i]?=some x,λi H=>∃xs,j6 K H a xs/\xs.length<=i⟩
def M5 (lo:Int) (n:Nat):It:=⟨λi _=>i<n,λi H x H'=>H'=H/\x=.int (lo+i),λi _=>n<=i⟩
theorem Fz(a it:Addr):Turn P w K tg (RI K a) [it] it (λi h=>h.IsListIter it a i) where
 mem:=by simp
 obj:=λi h st b hb=>by
  have e:b=it:=by simpa using hb
  subst e;obtain⟨o,e,c,d⟩:=st;exact⟨o,e,λv z=>by rw[d]at z;cases z⟩
 keep:=λi h h' st k=>st.at λo e=>k it (by simp) o e
 item:=by
  intro X hP hw hK hc i pins s σ H E I hf st hg;subst hP hw hK;obtain⟨xs,x,hq,hx⟩:=hg;obtain⟨aq,rv,p,hz⟩:=I.list hq;obtain⟨u,hu,ru⟩:=rv.get hx;obtain⟨f0,f1,f2,f3,f4,f5⟩:=hf it (by simp);refine wpAny_pyNext_list_item st p.isList (x:=u) (by simpa using hu) λh' xg sb=>?_;have I1:Inv X pins σ H {s with heap:=h'}:=I.turned (t':=s.toks) (λb o hb e=>(sb.2 b hb).trans e) f0 f1 f3 f4 f5;obtain⟨o,e,c,d⟩:=id xg;exact⟨u,rfl,Em (s:={s with heap:=h'}) e c d (by decide) ⟨x,H,I1,ru,⟨rfl,λys hy=>by rw[I.tQ hy hq];exact hx⟩,xg,λb hb=>(hf b hb).1⟩⟩
 done:=by
  intro X hP hw hK hc i pins s σ H E I hf st hg;subst hP hw hK;obtain⟨xs,hq,hx⟩:=hg;obtain⟨aq,rv,p,hz⟩:=I.list hq;obtain⟨f0,f1,f2,f3,f4,f5⟩:=hf it (by simp);have hl:=rv.length;exact wpAny_pyNext_list_end (I.ok.hd hc) st p.isList (by simp;omega) λh' eb=>⟨rfl,I.turned (t':=s.toks) (λb o hb e=>eb b o hb e) f0 f1 f3 f4 f5⟩
 self:=λ_ _ _ _ _ st h=>wpAny_pyIter_listiter st h
theorem Dw(a it:Addr):Turn P w K tg (RH K a) [it] it (λi h=>h.IsTupleIter it a i) where
 mem:=by simp
 obj:=λi h st b hb=>by
  have e:b=it:=by simpa using hb
  subst e;obtain⟨o,e,c,d⟩:=st;exact⟨o,e,λv z=>by rw[d]at z;cases z⟩
 keep:=λi h h' st k=>st.at λo e=>k it (by simp) o e
 item:=by
  intro X hP hw hK hc i pins s σ H E I hf st hg;subst hP hw hK;obtain⟨xs,x,hq,hx⟩:=hg;obtain⟨aq,rv,p,hz⟩:=I.tuple hq;obtain⟨u,hu,ru⟩:=rv.get hx;obtain⟨f0,f1,f2,f3,f4,f5⟩:=hf it (by simp);refine wpAny_pyNext_tuple_item st (show s.heap.IsTuple a aq.toArray from p) (x:=u) (by simpa using hu) λh' xg sb=>?_;have I1:Inv X pins σ H {s with heap:=h'}:=I.turned (t':=s.toks) (λb o hb e=>(sb.2 b hb).trans e) f0 f1 f3 f4 f5;obtain⟨o,e,c,d⟩:=id xg;exact⟨u,rfl,Em (s:={s with heap:=h'}) e c d (by decide) ⟨x,H,I1,ru,⟨rfl,λys hy=>by rw[I.xa hy hq];exact hx⟩,xg,λb hb=>(hf b hb).1⟩⟩
 done:=by
  intro X hP hw hK hc i pins s σ H E I hf st hg;subst hP hw hK;obtain⟨xs,hq,hx⟩:=hg;obtain⟨aq,rv,p,hz⟩:=I.tuple hq;obtain⟨f0,f1,f2,f3,f4,f5⟩:=hf it (by simp);have hl:=rv.length;exact wpAny_pyNext_tuple_end (I.ok.hd hc) st (show s.heap.IsTuple a aq.toArray from p) (by simp;omega) λh' eb=>⟨rfl,I.turned (t':=s.toks) (λb o hb e=>eb b o hb e) f0 f1 f3 f4 f5⟩
 self:=λ_ _ _ _ _ st h=>wpAny_pyIter_tupleiter st h
theorem Dx(it:Addr)(lo:Int)(n:Nat):Turn P w K tg (M5 lo n) [it] it (λi h=>IsRangeIter h it (lo+(i:Nat)*1) ((n:Int)-(i:Nat)) 1) where
 mem:=by simp
 obj:=λi h st b hb=>by
  have e:b=it:=by simpa using hb
  subst e;exact⟨_,st,λv z=>by
   have z':Data.fields _=Data.cell v:=z;cases z'⟩
 keep:=λi h h' st k=>k it (by simp) _ st
 item:=by
  intro X hP hw hK hc i pins s σ H E I hf st hg;subst hP hw hK;obtain⟨f0,f1,f2,f3,f4,f5⟩:=hf it (by simp);have W:=Walks.range (prog:=X.prog) (w:=X.w) (I.ok.hd hc) it lo 1 n;refine W.item i s _ _ hg st λv h' tk hv xg kk=>?_;obtain⟨t,rfl⟩:=hv;have I1:Inv X pins σ H {s with heap:=h',toks:=tk}:=I.turned (λb o hb e=>kk b o (by simpa using hb) e) f0 f1 f3 f4 f5;refine⟨_,rfl,Em (s:={s with heap:=h',toks:=tk}) (n:="range_iterator") xg rfl rfl (by decide) ⟨.int (lo+i),H,I1,⟨t,?_⟩,⟨rfl,rfl⟩,xg,λb hb=>(hf b hb).1⟩⟩;rw[Int.mul_one]
 done:=by
  intro X hP hw hK hc i pins s σ H E I hf st hg;subst hP hw hK;obtain⟨f0,f1,f2,f3,f4,f5⟩:=hf it (by simp);exact wpAny_pyNext_range_end (I.ok.hd hc) st (by have:n<=i:=hg;omega) λh' eb=>⟨rfl,I.turned (t':=s.toks) (λb o hb e=>eb b o hb e) f0 f1 f3 f4 f5⟩
 self:=λ_ _ _ _ _ st h=>wpAny_pyIter_rangeiter st h
open PySem PySem.Spec PyProof.Rows
theorem IW{σ:St}{s:Shared}{R:It->Hp->Prop}{lo hi:Int}{t u v:Tok}{tk:Nat}(I:Inv X pins σ H s)(h1: -(2^62)<=lo)(h2:lo<2^62)(h3: -(2^62)<=hi)(h4:hi<2^62)(q:R (M5 lo (hi-lo).toNat) H):wpAny (model X.prog X.w) X.A (pyIter (.ref s.heap.objs.size)) (V3 X pins σ tg R) E {s with heap:=s.heap.push {cls:=.type "range",data:=.fields #[.int lo t,.int hi u,.int 1 v]},toks:=tk}:=by
 refine wpAny_pyIter_range (IsRange.new ..) (small_one h1 h2 h3 h4) ?_;have I1:Inv X pins σ H {s with heap:=s.heap.push {cls:=.type "range",data:=.fields #[.int lo t,.int hi u,.int 1 v]},toks:=tk}:=I.kept λb o e=>get?_push_of_some _ e;refine⟨(s.heap.push {cls:=.type "range",data:=.fields #[.int lo t,.int hi u,.int 1 v]}).objs.size,[(s.heap.push {cls:=.type "range",data:=.fields #[.int lo t,.int hi u,.int 1 v]}).objs.size],_,_,H,rfl,
  I1.kept (t':=tk) λb o e=>get?_push_of_some _ e,Dx _ lo (hi-lo).toNat,?_,λb hb=>?_,q⟩
 ·have e1:lo+((0:Nat):Int)*1=lo:=by simp
  have e2:(((hi-lo).toNat:Nat):Int)-((0:Nat):Int)=Builtin.Range.rangeSize lo hi 1:=by rw[rangeSize_one];split<;>omega
  show IsRangeIter _ _ (lo+((0:Nat):Int)*1) ((((hi-lo).toNat:Nat):Int)-((0:Nat):Int)) 1;rw[e1,e2];exact get?_push_size _ rfl
 ·have e:b=(s.heap.push {cls:=.type "range",data:=.fields #[.int lo t,.int hi u,.int 1 v]}).objs.size:=by simpa using hb
  subst e;exact I1.Aw (le_refl _) (I1.bR.fresh (le_refl _))
def SI (ta:TA):TI:=λσ H R=>ta σ H λvs H1=>∃j:Int,vs=[.int j]/\-(2^62)<=j/\j<2^62/\R (M5 0 j.toNat) H1
theorem qG{ta:TA}{p:Pos}(hg:Gl X "range")(hm:X.mg "range"=none)(ha:PA X [a] ta)(hs:starEach [a] X.env=[(false,eval a X.env)]:=by rfl):PI X tg (.Call (.Name "range" p) [a] [] pos) (SI ta):=by
 intro pins s σ H R I h;refine Call_ (oB I hg hm boot_range (PyProof.Rows.callWith_type1 (cz (ha pos pins s σ H _ I h) λus s1 ⟨vs,H1,I1,r1,q1⟩=>?_) hs rfl));obtain⟨j,e,q1,q2,q⟩:=q1;subst e;cases r1 with
 |cons r rr=>
  cases rr;obtain⟨t,rfl⟩:=r;exact call_range_1 (IW I1 (by omega) (by omega) q1 q2 (by simpa using q))
def VJ (wi:TI) (g:TG) (tb:TS):TS:=λD σ H=>wi σ H λJ H1=>∃W:Nat->Nat->St->Hp->Prop,(∃m,W 0 m σ H1)/\∀i m σ H,W i m σ H->
 (J.stop i H/\D.nx σ H)\/(J.go i H/\∃N:St->Hp->Prop,(∀bJ H',N bJ H'->∃m',m'<m/\W (i+1) m' bJ H')/\∀x H',J.sQ i H x H'->g x σ H' λcP H2=>tb {D with nx:=N,ct:=N,bk:=D.nx} cP H2)
def qF (fp:List Addr) (h:Heap):List (Addr×Obj):=fp.filterMap λb=>(h.get? b).map λo=>(b,o)
variable {fp:List Addr}
theorem m9{b:Addr}(hb:b∈fp)(e:h.get? b=some o):(b,o)∈qF fp h:=List.mem_filterMap.mpr ⟨b,hb,by rw[e];rfl⟩
theorem Gx{p:Addr×Obj}(hp:p∈qF fp h):p.1∈fp/\h.get? p.1=some p.2:=by
 obtain⟨b,hb,e⟩:=List.mem_filterMap.mp hp;cases q:h.get? b with
 |none=>rw[q]at e;cases e
 |some o=>
  rw[q]at e;have e':(b,o)=p:=Option.some.inj e;subst e';exact⟨hb,q⟩
theorem Inv.pinned{σ:St}{s:Shared}(I:Inv X pins σ H s)(hf:∀b∈fp,pQ X pins H b)(ho:∀b∈fp,∃o,s.heap.get? b=some o/\∀v,o.data≠.cell v):Inv X (pins++qF fp s.heap) σ H s:=
 I.oy λp hp=>(mem_append.mp hp).elim (λz=>I.pin p (mem_append_right _ z)) λz=>by
  obtain⟨hb,e⟩:=Gx z;obtain⟨f0,f1,f2,_⟩:=hf p.1 hb;obtain⟨o,e',d⟩:=ho p.1 hb;rw[e]at e';cases e';exact⟨e,f0,f1,f2,d⟩
theorem Inv.tp{pl:List (Addr×Obj)}{σ:St}{s:Shared}(I:Inv X (pins++pl) σ H s):Inv X pins σ H s:=I.oy λp hp=>I.pin p (mem_append_right _ (mem_append_left _ hp))
variable {iter:Expr} {wi:TI}
theorem qC{g:TG}{tb:TS}(hp:PassesOwn (model X.prog X.w) X.A X.env X.xe)(hc:X.calm=true)(hi:PI X tg iter wi)(hg:PG X tg g)(hb:lF X body tb)(hs:∀x,foldedSetIterable iter X.env x=pure x:=by intro _;rfl):PS X (.For tg iter body [] pos) (VJ wi g tb):=by
 intro pins s σ H D I h;refine wpAny_For (cz (hi pins s σ H _ I h) λv s1 h1=>cz h1 λLb s2 h2=>?_) hs;obtain⟨it,fp,tn,J,H2,e,I2,T,qp,f2,W,⟨m0,w0⟩,turn⟩:=h2;subst e

 have tv:∀{H':Hp},(∀b∈fp,H' b=none)->∀b∈fp,pQ X pins H' b:=λhn b hb=>⟨hn b hb,(f2 b hb).2⟩;refine codeAny_forLoop_any (λn s'=>∃i bJ H',Inv X pins bJ H' s'/\tn i s'.heap/\(∀b∈fp,H' b=none)/\W i n bJ H') ?_ m0 ⟨0,σ,H2,I2,qp,λb hb=>(f2 b hb).1,w0⟩;rintro n s3 ⟨i,qg,H3,I3,Tq,UE,w3⟩;rcases turn i n qg H3 w3 with⟨stop,qn⟩|⟨go,N,hN,step⟩
 ·refine wpAny_passesOwn hp (cz (T.done X rfl rfl rfl hc i pins s3 qg H3 X.xe I3 (tv UE) Tq stop) λr s4 ⟨hr,I4⟩=>?_);subst hr;exact wpAny_execs_nil ⟨qg,H3,I4,qn⟩
 ·refine wpAny_passesOwn hp (cz (T.item X rfl rfl rfl hc i pins s3 qg H3 X.xe I3 (tv UE) Tq go) λr s4 ⟨u,hr,h4⟩=>?_);subst hr;refine wpAny_passesOwn hp (cz h4 λ_ s5 ⟨x,H5,I5,r5,y5,yR,QQ⟩=>?_);have RJ:=I5.pinned (tv QQ) (T.obj _ _ yR);refine wpAny_passesOwn hp (cz (hg _ s5 qg H5 x u _ RJ r5 (step x H5 y5)) λ_ s6 ⟨F6,H6,I6,q6⟩=>?_);refine wpAny_passesOwn hp (cz (hb _ s6 F6 H6 _ I6 q6) λf s7 q7=>?_);have again:∀{qf:St} {H7:Hp},Inv X (pins++qF fp s5.heap) qf H7 s7->N qf H7->∃m,m<n/\∃i bJ H',Inv X pins bJ H' s7/\tn i s7.heap/\(∀b∈fp,H' b=none)/\W i m bJ H':=fun{qf H7} I7 n7=>by
   obtain⟨m',hm,w7⟩:=hN qf H7 n7;refine⟨m',hm,i+1,qf,H7,I7.tp,T.keep _ _ _ yR λb hb o e=>(I7.pin (b,o) (mem_append_right _ (mem_append_right _ (m9 hb e)))).1,λb hb=>?_,w7⟩;obtain⟨o,e,d⟩:=T.obj _ _ yR b hb;exact(I7.pin (b,o) (mem_append_right _ (mem_append_right _ (m9 hb e)))).2.1
  cases f with
  |next=>obtain⟨qf,H7,I7,n7⟩:=q7;exact again I7 n7
  |cont=>obtain⟨qf,H7,I7,n7⟩:=q7;exact again I7 n7
  |brk=>obtain⟨qf,H7,I7,q7⟩:=q7;exact⟨qf,H7,I7.tp,q7⟩
  |ret v=>obtain⟨x7,qf,H7,I7,r7,q7⟩:=q7;exact⟨x7,qf,H7,I7.tp,r7,q7⟩
open PySem PySem.Spec PyProof.Rows
abbrev R2:=V->V->Hp->VK->Prop
def dO (X:Cx) (f:Value->Value->Sem Value) (r:R2):Prop:=
 ∀(pins:List (Addr×Obj)) (s:Shared) (σ:St) (H:Hp) (x y:V) (v u:Value) (Q:VK),Inv X pins σ H s->RelV x v->RelV y u->r x y H Q->
  wpAny (model X.prog X.w) X.A (f v u) (EP X pins σ Q) X.xe s
def LX (X:Cx) (f:Value->Sem Value) (r:V->Hp->VK->Prop):Prop:=
 ∀(pins:List (Addr×Obj)) (s:Shared) (σ:St) (H:Hp) (x:V) (v:Value) (Q:VK),Inv X pins σ H s->RelV x v->r x H Q->
  wpAny (model X.prog X.w) X.A (f v) (EP X pins σ Q) X.xe s
def km (X:Cx) (f:Value) (r:List V->Hp->VK->Prop):Prop:=
 ∀(pins:List (Addr×Obj)) (s:Shared) (σ:St) (H:Hp) (xs:List V) (us:List Value) (Q:VK),Inv X pins σ H s->Vals xs us->r xs H Q->
  wpAny (model X.prog X.w) X.A (call f us) (EP X pins σ Q) X.xe s
def WB (X:Cx) (r:V->Hp->(Bool->Hp->Prop)->Prop):Prop:=
 ∀(pins:List (Addr×Obj)) (s:Shared) (σ:St) (H:Hp) (x:V) (v:Value) (Q:Bool->Hp->Prop),Inv X pins σ H s->RelV x v->r x H Q->
  wpAny (model X.prog X.w) X.A (truthy v) (TP X pins σ Q) X.xe s
def BR (r:R2) (ta tb:TE):TE:=λσ H Q=>ta σ H λx H1=>tb σ H1 λy H2=>r x y H2 Q
def WO (r:V->Hp->VK->Prop) (ta:TE):TE:=λσ H Q=>ta σ H λx H1=>r x H1 Q
def rI (C:Int->Int->Prop) (g:Int->Int->V):R2:=λx y H Q=>∃i j,x=.int i/\y=.int j/\C i j/\Q (g i j) H
def xk (g:Int->Int->V):R2:=λx y H Q=>∃i j,x=.int i/\y=.int j/\Q (g i j) H
def rU (g:Int->V):V->Hp->VK->Prop:=λx H Q=>∃i,x=.int i/\Q (g i) H
variable {f:Value->Value->Sem Value}
theorem Kd(ha:PE X a ta)(hb:PE X b tb){s:Shared}{σ:St}{R:V->V->Hp->Prop}(I:Inv X pins σ H s)(h:ta σ H λx H1=>tb σ H1 λy H2=>R x y H2){Q:Value->Shared->Prop}(hf:∀v u s2 x y H2,Inv X pins σ H2 s2->RelV x v->RelV y u->R x y H2->wpAny (model X.prog X.w) X.A (f v u) Q X.xe s2):
  wpAny (model X.prog X.w) X.A (eval a X.env) (λv cq=>wpAny (model X.prog X.w) X.A (eval b X.env) (λu cL=>wpAny (model X.prog X.w) X.A (f v u) Q X.xe cL) X.xe cq) X.xe s:=by
 refine cz (ha pins s σ H _ I h) λv s1 ⟨x,H1,I1,r1,q1⟩=>?_;refine cz (hb pins s1 σ H1 _ I1 q1) λu s2 ⟨y,H2,I2,r2,q2⟩=>?_;exact hf v u s2 x y H2 I2 r1 r2 q2
theorem E1{op:Operator}{r:R2}(ho:dO X (binaryOp op) r)(ha:PE X a ta)(hb:PE X b tb):PE X (.BinOp a op b pos) (BR r ta tb):=by
 intro pins s σ H Q I h;exact wpAny_BinOp (Kd ha hb I h λv u s2 x y H2 I2 rx ry q=>ho pins s2 σ H2 x y v u Q I2 rx ry q)
theorem Su{op:UnaryOp}{r:V->Hp->VK->Prop}(ho:LX X (unaryOp op) r)(ha:PE X a ta):PE X (.UnaryOp op a pos) (WO r ta):=by
 intro pins s σ H Q I h;exact UnaryOp_ (cz (ha pins s σ H _ I h) λv s1 ⟨x,H1,I1,r1,q1⟩=>ho pins s1 σ H1 x v Q I1 r1 q1)
theorem KY{C:Int->Int->Prop}{g:Int->Int->Int}(rule:∀(i j:Int) (t u:Tok) (s:Shared) (Q:Value->Shared->Prop) (E:Value->Shared->Prop),C i j->Q (.int (g i j) s.toks) {s with toks:=s.toks+1}->wpAny (model X.prog X.w) X.A (f (.int i t) (.int j u)) Q E s):
  dO X f (rI C λi j=>.int (g i j)):=by
 intro pins s σ H x y v u Q I rx ry h;obtain⟨i,j,rfl,rfl,hc,q⟩:=h;obtain⟨t,rfl⟩:=rx;obtain⟨t',rfl⟩:=ry;exact rule i j t t' s _ _ hc ⟨.int (g i j),H,I.tok _,⟨_,rfl⟩,q⟩
theorem VT{g:Int->Int->Int}(rule:∀(i j:Int) (t u:Tok) (s:Shared) (Q:Value->Shared->Prop) (E:Value->Shared->Prop),Q (.int (g i j) s.toks) {s with toks:=s.toks+1}->wpAny (model X.prog X.w) X.A (f (.int i t) (.int j u)) Q E s):
  dO X f (xk λi j=>.int (g i j)):=by
 intro pins s σ H x y v u Q I rx ry h;obtain⟨i,j,rfl,rfl,q⟩:=h;obtain⟨t,rfl⟩:=rx;obtain⟨t',rfl⟩:=ry;exact rule i j t t' s _ _ ⟨.int (g i j),H,I.tok _,⟨_,rfl⟩,q⟩
theorem E5{g:Int->Int->Bool}(rule:∀(i j:Int) (t u:Tok) (s:Shared) (Q:Value->Shared->Prop) (E:Value->Shared->Prop),Q (.bool (g i j)) s->wpAny (model X.prog X.w) X.A (f (.int i t) (.int j u)) Q E s):
  dO X f (xk λi j=>.bl (g i j)):=by
 intro pins s σ H x y v u Q I rx ry h;obtain⟨i,j,rfl,rfl,q⟩:=h;obtain⟨t,rfl⟩:=rx;obtain⟨t',rfl⟩:=ry;exact rule i j t t' s _ _ ⟨.bl (g i j),H,I,rfl,q⟩
def F5 (i j:Int):Prop:=0<=j/\j<=1000000/\i.natAbs<2^64
theorem zF:dO X (binaryOp .Add) (xk λi j=>.int (i+j)):=VT λ_ _ _ _ _ _ _ q=>add_int q
theorem Pg:dO X (binaryOp .Pow) (rI F5 λi j=>.int (i^j.toNat)):=KY λ_ _ _ _ _ _ _ hc q=>pow_int_small hc.1 hc.2.1 hc.2.2 q
theorem WM{f:Value->Sem Value}{g:Int->Int}(rule:∀(i:Int) (t:Tok) (s:Shared) (Q:Value->Shared->Prop) (E:Value->Shared->Prop),Q (.int (g i) s.toks) {s with toks:=s.toks+1}->wpAny (model X.prog X.w) X.A (f (.int i t)) Q E s):
  LX X f (rU λi=>.int (g i)):=by
 intro pins s σ H x v Q I rx h;obtain⟨i,rfl,q⟩:=h;obtain⟨t,rfl⟩:=rx;exact rule i t s _ _ ⟨.int (g i),H,I.tok _,⟨_,rfl⟩,q⟩
theorem Of:LX X (unaryOp .USub) (rU λi=>.int (-i)):=WM λ_ _ _ _ _ q=>neg_int q
def OD:V->V->Bool
 | .bW,.bW=>true| .bW,.int _=>true| .int _,.bW=>true| .bW,.bl _=>true| .bl _,.bW=>true| .bW,.str _=>true| .str _,.bW=>true
 | .int _,.int _=>true| .bl _,.bl _=>true| .str _,.str _=>true| .mY _,.mY _=>true
 | .int _,.str _=>true| .str _,.int _=>true| .bl _,.str _=>true| .str _,.bl _=>true
 |_,_=>false
def Tw:R2:=λx y H Q=>OD x y=true/\Q (.bl (decide (x=y))) H
def Tu:R2:=λx y H Q=>OD x y=true/\Q (.bl (!decide (x=y))) H
theorem De{i j:Int}:decide (V.int i=V.int j)=(i==j):=by
 rw[Bool.eq_iff_iff];simp
theorem vm{i j:Bool}:decide (V.bl i=V.bl j)=(i==j):=by
 rw[Bool.eq_iff_iff];simp
theorem Dd{i j:Str}:decide (V.str i=V.str j)=(i==j):=by
 rw[Bool.eq_iff_iff];simp
theorem Df{i j:Array UInt8}:decide (V.mY i=V.mY j)=(i.toList==j.toList):=by
 rw[Bool.eq_iff_iff];cases i;cases j;simp
variable {Q:VK}
theorem c8{σ:St}{s:Shared}{k k':Bool}(I:Inv X pins σ H s)(q:Q (.bl k) H)(e:k=k'):EP X pins σ Q (.bool k') s:=by
 subst e;exact⟨.bl k,H,I,rfl,q⟩
theorem yv:dO X (compareOp .Eq) Tw:=by
 intro pins s σ H x y v u Q I rx ry h;obtain⟨hs,q⟩:=h;cases x with
 |bW=>
  cases rx;cases y with
  |bW=>cases ry;exact PySem.EqNone.eq_none_none (c8 I q (by simp))
  |bl j=>cases ry;exact PySem.EqNone.eq_none_bool (c8 I q (by simp))
  |int j=>obtain⟨t',rfl⟩:=ry;exact PySem.EqNone.eq_none_int (c8 I q (by simp))
  |str j=>obtain⟨t',rfl⟩:=ry;exact PySem.EqNone.eq_none_str (c8 I q (by simp))
  |_=>exact absurd (show false=true from hs) Bool.false_ne_true
 |bl i=>
  cases rx;cases y with
  |bW=>cases ry;exact PySem.EqNone.eq_bool_none (c8 I q (by simp))
  |bl j=>cases ry;exact eq_bool (c8 I q vm)
  |str j=>obtain⟨t',rfl⟩:=ry;exact PySem.EqMixed.eq_bool_str (c8 I q (by simp))
  |_=>exact absurd (show false=true from hs) Bool.false_ne_true
 |int i=>
  obtain⟨t,rfl⟩:=rx;cases y with
  |bW=>cases ry;exact PySem.EqNone.eq_int_none (c8 I q (by simp))
  |int j=>obtain⟨t',rfl⟩:=ry;exact eq_int (c8 I q De)
  |str j=>obtain⟨t',rfl⟩:=ry;exact PySem.EqMixed.eq_int_str (c8 I q (by simp))
  |_=>exact absurd (show false=true from hs) Bool.false_ne_true
 |str i=>
  obtain⟨t,rfl⟩:=rx;cases y with
  |bW=>cases ry;exact PySem.EqNone.eq_str_none (c8 I q (by simp))
  |bl j=>cases ry;exact PySem.EqMixed.eq_str_bool (c8 I q (by simp))
  |int j=>obtain⟨t',rfl⟩:=ry;exact PySem.EqMixed.eq_str_int (c8 I q (by simp))
  |str j=>obtain⟨t',rfl⟩:=ry;exact eq_str (c8 I q Dd)
  |_=>exact absurd (show false=true from hs) Bool.false_ne_true
 |mY i=>
  obtain⟨t,rfl⟩:=rx;cases y with
  |mY j=>obtain⟨t',rfl⟩:=ry;exact PySem.W.eq_bytes (c8 I q Df)
  |_=>exact absurd (show false=true from hs) Bool.false_ne_true
 |_=>cases y<;>exact absurd (show false=true from hs) Bool.false_ne_true
theorem KS:dO X (compareOp .NotEq) Tu:=by
 intro pins s σ H x y v u Q I rx ry h;obtain⟨hs,q⟩:=h;cases x with
 |bW=>
  cases rx;cases y with
  |bW=>cases ry;exact PySem.EqNone.ne_none_none (c8 I q (by simp))
  |bl j=>cases ry;exact PySem.EqNone.ne_none_bool (c8 I q (by simp))
  |int j=>obtain⟨t',rfl⟩:=ry;exact PySem.EqNone.ne_none_int (c8 I q (by simp))
  |str j=>obtain⟨t',rfl⟩:=ry;exact PySem.EqNone.ne_none_str (c8 I q (by simp))
  |_=>exact absurd (show false=true from hs) Bool.false_ne_true
 |bl i=>
  cases rx;cases y with
  |bW=>cases ry;exact PySem.EqNone.ne_bool_none (c8 I q (by simp))
  |bl j=>cases ry;exact ne_bool (c8 I q (congrArg not vm))
  |str j=>obtain⟨t',rfl⟩:=ry;exact PySem.EqMixed.ne_bool_str (c8 I q (by simp))
  |_=>exact absurd (show false=true from hs) Bool.false_ne_true
 |int i=>
  obtain⟨t,rfl⟩:=rx;cases y with
  |bW=>cases ry;exact PySem.EqNone.ne_int_none (c8 I q (by simp))
  |int j=>obtain⟨t',rfl⟩:=ry;exact ne_int (c8 I q (congrArg not De))
  |str j=>obtain⟨t',rfl⟩:=ry;exact PySem.EqMixed.ne_int_str (c8 I q (by simp))
  |_=>exact absurd (show false=true from hs) Bool.false_ne_true
 |str i=>
  obtain⟨t,rfl⟩:=rx;cases y with
  |bW=>cases ry;exact PySem.EqNone.ne_str_none (c8 I q (by simp))
  |bl j=>cases ry;exact PySem.EqMixed.ne_str_bool (c8 I q (by simp))
  |int j=>obtain⟨t',rfl⟩:=ry;exact PySem.EqMixed.ne_str_int (c8 I q (by simp))
  |str j=>obtain⟨t',rfl⟩:=ry;exact ne_str (c8 I q (congrArg not Dd))
  |_=>exact absurd (show false=true from hs) Bool.false_ne_true
 |mY i=>
  obtain⟨t,rfl⟩:=rx;cases y with
  |mY j=>obtain⟨t',rfl⟩:=ry;exact PySem.W.ne_bytes (c8 I q (congrArg not Df))
  |_=>exact absurd (show false=true from hs) Bool.false_ne_true
 |_=>cases y<;>exact absurd (show false=true from hs) Bool.false_ne_true
theorem KU:dO X (compareOp .Lt) (xk λi j=>.bl (decide (i<j))):=E5 λ_ _ _ _ _ _ _ q=>lt_int q
theorem Sx:dO X (compareOp .LtE) (xk λi j=>.bl (decide (i<=j))):=E5 λ_ _ _ _ _ _ _ q=>le_int q
theorem KW:dO X (compareOp .Gt) (xk λi j=>.bl (decide (j<i))):=E5 λ_ _ _ _ _ _ _ q=>gt_int q
theorem Sy:dO X (compareOp .GtE) (xk λi j=>.bl (decide (j<=i))):=E5 λ_ _ _ _ _ _ _ q=>ge_int q
theorem Gs:dO X (compareOp .In) (λx y H Q=>∃i j,x=.str i/\y=.str j/\Q (.bl (!(Builtin.Str.occurrences j i 0 j.length 1).isEmpty)) H):=by
 intro pins s σ H x y v u Q I rx ry h;obtain⟨i,j,rfl,rfl,q⟩:=h;obtain⟨t,rfl⟩:=rx;obtain⟨t',rfl⟩:=ry;exact in_str (c8 I q rfl)
theorem Gr:dO X (compareOp .Is) (λx y H Q=>y=.bW/\Q (.bl (decide (x=.bW))) H):=by
 intro pins s σ H x y v u Q I rx ry h;obtain⟨rfl,q⟩:=h;cases ry;refine is_none_gen (c8 I q ?_);cases x<;>first
  |(cases rx;rfl)
  |(obtain⟨t,rfl⟩:=rx;rfl)
theorem N1:dO X (compareOp .IsNot) (λx y H Q=>y=.bW/\Q (.bl (!decide (x=.bW))) H):=by
 intro pins s σ H x y v u Q I rx ry h;obtain⟨rfl,q⟩:=h;cases ry;refine isnot_none_gen (c8 I q ?_);cases x<;>first
  |(cases rx;rfl)
  |(obtain⟨t,rfl⟩:=rx;rfl)
variable {r:R2}
theorem dO.or{r':R2}(h:dO X f r)(h':dO X f r'):dO X f (λx y H Q=>r x y H Q\/r' x y H Q):=by
 intro pins s σ H x y v u Q I rx ry q;rcases q with q|q
 ·exact h pins s σ H x y v u Q I rx ry q
 ·exact h' pins s σ H x y v u Q I rx ry q
variable {op:CmpOp}
theorem eB(b:Expr)(h:op≠.In:=by decide)(h2:op≠.NotIn:=by decide):behindInMarks op b=false:=by
 have e1:(op==CmpOp.In)=false:=by cases op<;>first|rfl|exact absurd rfl h
 have e2:(op==CmpOp.NotIn)=false:=by cases op<;>first|rfl|exact absurd rfl h2
 cases b<;>simp[behindInMarks,e1,e2]
theorem Cd(ho:dO X (compareOp op) r)(ha:PE X a ta)(hb:PE X b tb)(hm:behindInMarks op b=false):PE X (.Compare a [op] [b] pos) (BR r ta tb):=by
 intro pins s σ H Q I h;exact wpAny_Compare1 (Kd ha hb I h λv u s2 x y H2 I2 rx ry q=>ho pins s2 σ H2 x y v u Q I2 rx ry q) hm
def Ky (t:TE):TT:=λσ H Q=>t σ H λx H'=>∃k,x=.bl k/\Q k H'
theorem C9(ho:dO X (compareOp op) r)(ha:PE X a ta)(hb:PE X b tb)(hm:behindInMarks op b=false):PT X (.Compare a [op] [b] pos) (Ky (BR r ta tb)):=by
 intro pins s σ H Q I h;refine wpAny_isTrue_Compare1 (cz (ha pins s σ H _ I h) λv s1 ⟨x,H1,I1,r1,q1⟩=>cz (hb pins s1 σ H1 _ I1 q1) λu s2 ⟨y,H2,I2,r2,q2⟩=>
  cz (ho pins s2 σ H2 x y v u _ I2 r1 r2 q2) λc s3 ⟨z,H3,I3,r3,k,e,q3⟩=>?_) hm
 subst e;cases r3;exact wpAny_truthy_bool ⟨H3,I3,q3⟩
def Ki (K:Frag) (x:V) (H:Hp) (k:Bool):Prop:=
 match x with
 | .bW=>k=false
 | .bl b=>k=b
 | .int i=>k=(i !=0)
 | .str y=>y.length<=sizeLine/\k=((y.length:Int) !=0)
 | .mY y=>y.size<=sizeLine/\k=((y.size:Int) !=0)
 | .ref p=>(∃xs,fk K H p xs/\k=!xs.isEmpty)\/(∃xs,j6 K H p xs/\k=!xs.isEmpty)\/∃fO,H p=some (.dK fO)/\k=!fO.isEmpty
 |_=>False
theorem Ed{κ:Type}{fO:List (κ×V)}{vs:List (κ×Value)}(r:KV fO vs):(!vs.isEmpty)=!fO.isEmpty:=by
 cases r<;>rfl
variable {aq:List Value}
theorem uT(r:Vals xs aq):(!aq.toArray.isEmpty)=!xs.isEmpty:=by
 cases r<;>simp
theorem qP:(sizeLine:Nat)<2^63:=by rw[sizeLine_eq];decide
theorem Oi:WB X (λx H Q=>∃k,Ki X.K x H k/\Q k H):=by
 intro pins s σ H x v Q I rx h;obtain⟨k,e,q⟩:=h;have hl:=qP;have hs:sizeLine=16777216:=sizeLine_eq;cases x with
 |bW=>
  cases rx;have e':k=false:=e;subst e';exact truthy_none ⟨H,I,q⟩
 |bl b=>
  cases rx;have e':k=b:=e;subst e';exact wpAny_truthy_bool ⟨H,I,q⟩
 |int i=>
  obtain⟨t,rfl⟩:=rx;have e':k=(i !=0):=e;subst e';exact PySem.P.truthy_int ⟨H,I,q⟩
 |str y=>
  obtain⟨t,rfl⟩:=rx;obtain⟨hy,e'⟩:y.length<=sizeLine/\k=((y.length:Int) !=0):=e;subst e';exact PySem.P.truthy_str (by omega) ⟨H,I.tok _,q⟩
 |mY y=>
  obtain⟨t,rfl⟩:=rx;obtain⟨hy,e'⟩:y.size<=sizeLine/\k=((y.size:Int) !=0):=e;subst e';exact PySem.W.truthy_bytes (by omega) ⟨H,I.tok _,q⟩
 |ref p=>
  cases rx;have e':(∃xs,fk X.K H p xs/\k=!xs.isEmpty)\/(∃xs,j6 X.K H p xs/\k=!xs.isEmpty)\/∃fO,H p=some (.dK fO)/\k=!fO.isEmpty:=e;rcases e' with⟨xs,hx,e'⟩|⟨xs,hx,e'⟩|⟨fO,hx,e'⟩
  ·subst e';obtain⟨aq,r,pl,hz⟩:=I.list hx;have hlen:=r.length;exact wpAny_truthy_list pl.isList (by simp only[size_toArray];omega) ⟨H,I.tok _,by rw[uT r];exact q⟩
  ·subst e';obtain⟨aq,r,pl,hz⟩:=I.tuple hx;have hlen:=r.length;exact truthy_tuple pl (by simp only[size_toArray];omega) ⟨H,I.tok _,by rw[uT r];exact q⟩
  ·subst e';obtain⟨hz,hS,vs,r,m⟩:fO.length<=sizeLine/\(p==sysModules)=false/\∃vs,KV fO vs/\s.heap.DictOf (wg X.prog X.w) p vs:=I.bR p _ hx;have hlen:fO.length=vs.length:=Paired.length r;exact wpAny_truthy_dict hS m (by omega) ⟨H,I.tok _,by rw[Ed r];exact q⟩
 |_=>exact(show False from e).elim
theorem zk(ha:PE X a ta)(he:∀whole,isTrue a X.env whole=(do let v <- whole;standAt a.pos;holding [v] (truthy v))):
  PT X a (λσ H Q=>ta σ H λx H'=>∃k,Ki X.K x H' k/\Q k H'):=by
 intro pins s σ H Q I h;exact isTrue_plain (cz (ha pins s σ H _ I h) λv s1 ⟨x,H1,I1,r1,q1⟩=>Oi pins s1 σ H1 x v Q I1 r1 q1) (he _)
theorem pv:dO X (binaryOp .Add) (λx y H Q=>∃i j,x=.str i/\y=.str j/\i.length+j.length<=sizeLine/\Q (.str (i++j)) H):=by
 intro pins s σ H x y v u Q I rx ry h;obtain⟨i,j,rfl,rfl,hz,q⟩:=h;obtain⟨t,rfl⟩:=rx;obtain⟨t',rfl⟩:=ry;exact add_str (λt' tk=>⟨.str (i++j),H,I.tok _,⟨_,rfl⟩,q⟩) hz
theorem vals1{x:V}(r:Vals [x] us):∃u,us=[u]/\RelV x u:=by
 cases r with
 |cons r1 r2=>cases r2;exact⟨_,rfl,r1⟩
variable {y:V}
theorem vals2{x:V}(r:Vals [x,y] us):∃u w',us=[u,w']/\RelV x u/\RelV y w':=by
 cases r with
 |cons r1 r2=>
  cases r2 with
  |cons r3 r4=>cases r4;exact⟨_,_,rfl,r1,r3⟩
theorem Kb:km X (.builtin "abs") (λxs H Q=>∃i,xs=[.int i]/\Q (.int (if i<0 then -i else i)) H):=by
 intro pins s σ H xs us Q I r h;obtain⟨i,rfl,q⟩:=h;obtain⟨u,rfl,t,rfl⟩:=vals1 r;exact call_abs_int λu tk=>⟨.int (if i<0 then -i else i),H,I.tok _,⟨_,rfl⟩,q⟩
theorem Ih:km X (.type "int") (λxs H Q=>(∃i,xs=[.int i]/\Q (.int i) H)\/∃k,xs=[.bl k]/\Q (.int (if k then 1 else 0)) H):=by
 intro pins s σ H xs us Q I r h;rcases h with⟨i,rfl,q⟩|⟨k,rfl,q⟩
 ·obtain⟨u,rfl,t,rfl⟩:=vals1 r;exact call_int_int ⟨.int i,H,I,⟨_,rfl⟩,q⟩
 ·obtain⟨u,rfl,r1⟩:=vals1 r;cases r1;exact call_int_bool ⟨.int (if k then 1 else 0),H,I.tok _,⟨_,rfl⟩,q⟩
def RG (K:Frag) (x:V) (H:Hp) (n:Nat):Prop:=
 match x with
 | .str y=>y.length<=sizeLine/\n=y.length
 | .mY y=>y.size<=sizeLine/\n=y.size
 | .ref p=>(∃xs,fk K H p xs/\n=xs.length)\/∃xs,j6 K H p xs/\n=xs.length
 |_=>False
theorem Ka:km X (.builtin "len") (λxs H Q=>∃x n,xs=[x]/\RG X.K x H n/\Q (.int n) H):=by
 intro pins s σ H xs us Q I r h;obtain⟨x,n,rfl,e,q⟩:=h;obtain⟨u,rfl,rx⟩:=vals1 r;have hl:=qP;have hs:sizeLine=16777216:=sizeLine_eq;cases x with
 |str y=>
  obtain⟨t,rfl⟩:=rx;obtain⟨hy,e'⟩:y.length<=sizeLine/\n=y.length:=e;subst e';exact len_str (by omega) ⟨.int _,H,I.tok _,⟨_,rfl⟩,q⟩
 |mY y=>
  obtain⟨t,rfl⟩:=rx;obtain⟨hy,e'⟩:y.size<=sizeLine/\n=y.size:=e;subst e';exact PySem.W.len_bytes (by omega) ⟨.int _,H,I.tok _,⟨_,rfl⟩,q⟩
 |ref p=>
  cases rx;have e':(∃xs,fk X.K H p xs/\n=xs.length)\/∃xs,j6 X.K H p xs/\n=xs.length:=e;rcases e' with⟨xs,hx,e'⟩|⟨xs,hx,e'⟩
  ·subst e';obtain⟨aq,r',pl,hz⟩:=I.list hx;have hlen:=r'.length;exact Calls.call_len_list pl.isList (by simp only[size_toArray];omega) ⟨.int xs.length,H,I.tok _,⟨_,by simp only[size_toArray];rw[hlen]⟩,q⟩
  ·subst e';obtain⟨aq,r',pl,hz⟩:=I.tuple hx;have hlen:=r'.length;exact len_tuple pl (by simp only[size_toArray];omega) ⟨.int xs.length,H,I.tok _,⟨_,by simp only[size_toArray];rw[hlen]⟩,q⟩
 |_=>exact(show False from e).elim
open PySem PySem.Spec PyProof.Rows
structure cg (k:Nat) (A:Around):Prop where
 hd:A.handled=none
 dp:A.depth+3*k+5<recursionLimit
 un:A.units+16*k+200<cLine
variable {j k:Nat}
theorem cg.mono(r:cg k A)(h:j<=k):cg j A:=⟨r.hd,by have:=r.dp;omega,by have:=r.un;omega⟩
theorem cg.deeper(r:cg (k+1) A)(env:Env):cg k (A.deeper env):=
 ⟨r.hd,by have:=r.dp;show A.depth+1+3*k+5<_;omega,by have:=r.un;show A.units+3+16*k+200<_;omega⟩
theorem cg.depth(r:cg k A):A.depth<recursionLimit:=by have:=r.dp;omega
theorem cg.units(r:cg k A):A.units+64<cLine:=by have:=r.un;omega
def VG:TA:=λ_ H Q=>Q [] H
def Sh (ta:TE) (tr:TA):TA:=λσ H Q=>ta σ H λx H1=>tr σ H1 λxs H2=>Q (x::xs) H2
theorem mL:PA X [] VG:=λ_ _ _ _ H Q I h=>Calls.spliced_nil ⟨[],H,I,.nil,h⟩
variable {t:TA}
theorem iZ(ha:PE X e te)(hr:PA X es t)(hs:starEach (e::es) X.env=(false,eval e X.env)::starEach es X.env:=by rfl):PA X (e::es) (Sh te t):=by
 intro pos pins s σ H Q I h;rw[hs];show wpAny _ _ (spliced ((false,eval e X.env)::backTo pos (starEach es X.env))) _ _ s;refine Calls.spliced_cons (cz (ha pins s σ H _ I h) λu s1 ⟨x,H1,I1,r1,q1⟩=>?_);exact cz (hr pos pins s1 σ H1 _ I1 q1) λus s2 ⟨xs,H2,I2,r2,q2⟩=>⟨x::xs,H2,I2,.cons r1 r2,q2⟩
def VA (t:TA):TE:=λσ H Q=>t σ H λxs H1=>xs.length<=sizeLine/\∀p,H1 p=none->Q (.ref p) (upd H1 p (.tup xs))
def VH (t:TA):TE:=λσ H Q=>t σ H λxs H1=>xs.length<=sizeLine/\∀p,H1 p=none->Q (.ref p) (upd H1 p (.lst xs))
theorem Gk{x1}(h:PA X es t):PE X (.Tuple es x1 pos) (VA t):=by
 intro pins s σ H Q I hq;refine wpAny_Tuple_spliced (cz (h pos pins s σ H _ I hq) λus s1 ⟨xs,H1,I1,r,z,q⟩=>⟨by rw[<- r.length];exact z,?_⟩);have hf:H1 s1.heap.objs.size=none:=I1.bR.fresh (le_refl _);refine⟨.ref s1.heap.objs.size,upd H1 s1.heap.objs.size (.tup xs),I1.laid (t':=s1.toks) (λb u e=>get?_push_of_some _ e) (le_refl _) ?_,rfl,q _ hf⟩;exact⟨z,us,r,⟨_,get?_push_size _ rfl,rfl,_,rfl⟩⟩
theorem qH(h:PA X es t):PE X (.List es pos) (VH t):=by
 intro pins s σ H Q I hq;refine wpAny_List_spliced (cz (h pos pins s σ H _ I hq) λus s1 ⟨xs,H1,I1,r,z,q⟩=>⟨by rw[<- r.length];exact z,?_⟩);have hf:H1 s1.heap.objs.size=none:=I1.bR.fresh (le_refl _);refine⟨.ref s1.heap.objs.size,upd H1 s1.heap.objs.size (.lst xs),I1.laid (t':=s1.toks) (λb u e=>get?_push_of_some _ e) (le_refl _) ?_,rfl,q _ hf⟩;exact⟨z,us,0,r,get?_push_size _ rfl⟩
abbrev Sp:=List V->Hp->VK->XK->Prop
abbrev ya:=List Env->Hp->Shared->XK->Value->Shared->Prop
structure F1 (P:Program) (w:World) (K:Frag) (mg:Str->Option Value) (base:Heap) (A:Around) (outer:List Env) (s:Shared) (H:Hp):Prop where
 frames:A.frames=some outer
 mod:Mod K mg base
 bs:∀b o,base.get? b=some o->s.heap.get? b=some o/\H b=none
 B1:base.objs.size<=s.heap.objs.size
 mR:s.heap.FunFrames base outer
 CL:∀b∈mS outer,H b=none
 bR:i7 P w H s.heap
 bare:AllBare s.gens
def CE (outer:List Env) (P:Program) (w:World) (H:Hp) (s:Shared) (Q:VK) (u:Value) (s':Shared):Prop:=
 ∃v H',s'.os=s.os/\AllBare s'.gens/\Un (mS outer) [] H H' s.heap s'.heap/\i7 P w H' s'.heap/\RelV v u/\Q v H'
def CR (CX:ya) (outer:List Env) (P:Program) (w:World) (H:Hp) (s:Shared) (Q:VK) (E:XK) (r:Result) (s':Shared):Prop:=
 match r with
 | .ok (.ret u)=>CE outer P w H s Q u s'
 | .ok _=>False
 | .error e=>CX outer H s E e s'
structure gn (P:Program) (w:World) (K:Frag) (mg:Str->Option Value) (base:Heap) (CX:ya) (k:Nat) (f:Addr) (fd:FuncData) (ps:List Str) (sp:Sp):Prop where
 len:∀vs H Q E,sp vs H Q E->vs.length=ps.length
 run:∀(A:Around) (outer:List Env) (s:Shared) (H:Hp) (args:Args) (us:List Value) (vs:List V) (Q:VK) (E:XK),cg k A->F1 P w K mg base A outer s H->BindsTo s fd args (ps.zip us)->Vals vs us->sp vs H Q E->
  codeAny (model P w) A (.call (.ref f) args) (CR CX outer P w H s Q E) s
variable {mg:Str->Option Value} {base:Heap} {CX:ya} {f:Addr} {fd:FuncData} {ps:List Str} {sp:Sp}
theorem gn.mono(F:gn P w K mg base CX j f fd ps sp)(h:j<=k):
  gn P w K mg base CX k f fd ps sp:=⟨F.len,λA outer s H args us vs Q E hr=>F.run A outer s H args us vs Q E (hr.mono h)⟩
theorem gn.imp{Tr:Sp}(F:gn P w K mg base CX k f fd ps sp)(h:∀vs H Q E,Tr vs H Q E->sp vs H Q E):gn P w K mg base CX k f fd ps Tr:=
 ⟨λvs H Q E q=>F.len vs H Q E (h _ _ _ _ q),λA outer s H args us vs Q E hr he hb hv hs=>F.run A outer s H args us vs Q E hr he hb hv (h _ _ _ _ hs)⟩
variable {s:Shared} in
theorem Inv.Wt(I:Inv X pins σ H s):F1 X.prog X.w X.K X.mg X.base X.A X.stack s H:=
 ⟨I.ok.frames,I.ok.mod,I.bs,le_trans I.ok.B1 I.sz,I.stack,I.BV,I.bR,I.bare⟩
variable {u:Value}
variable {s:Shared} in
theorem Inv.after(I:Inv X pins σ H s)(h:CE X.stack X.prog X.w H s Q u s'):EP X pins σ Q u s':=by
 obtain⟨v,H',os,bare,un,bR,r,q⟩:=h;obtain⟨hh,g,d,t,X1⟩:=s';obtain rfl:X1=s.os:=os;exact⟨v,H',I.call (h':=hh) (g':=g) (d':=d) (t':=t) (ch:=[]) un bR bare (λb z=>absurd z (by simp)),r,q⟩
def KD (sp:Sp) (xT:List V) (E:XK) (t:TA):TE:=λσ H Q=>t σ H λvs H1=>sp (vs++xT) H1 Q E
def Binds (K:Frag) (fd:FuncData) (ps:List Str) (ds:List Value):Prop:=
 ∀(s:Shared) (us:List Value),K.In s.heap->(us++ds).length=ps.length->BindsTo s fd ⟨us,[]⟩ (ps.zip (us++ds))
theorem Binds.all(h:∀us:List Value,us.length=ps.length->bindArgs fd ⟨us,[]⟩=pure (ps.zip us)):Binds K fd ps []:=λs us _ hl=>by
 rw[append_nil]at hl ⊢;exact .of_eq (h us hl)
def Passes (CX:ya) (X:Cx) (E:XK):Prop:=∀(pins:List (Addr×Obj)) (σ:St) (H:Hp) (s:Shared) (e:Value) (s':Shared),Inv X pins σ H s->CX X.stack H s E e s'->X.xe e s'
variable {E:XK} {ds:List Value} {xT:List V}
theorem OG{σ:St}{s:Shared}{vs:List V}(F:gn X.prog X.w X.K X.mg X.base CX k f fd ps sp)(hr:cg k X.A)(hb:Binds X.K fd ps ds)(hd:Vals xT ds)(hx:Passes CX X E)(I:Inv X pins σ H s)(r:Vals vs us)(h:sp (vs++xT) H Q E):wpAny (model X.prog X.w) X.A (call (.ref f) us) (EP X pins σ Q) X.xe s:=by
 have r2:Vals (vs++xT) (us++ds):=r.append hd;have hl:(us++ds).length=ps.length:=by rw[<- r2.length];exact F.len _ _ _ _ h
 refine wpAny_call (codeAny_mono (F.run X.A X.stack s H ⟨us,[]⟩ (us++ds) (vs++xT) Q E hr I.Wt (hb s us I.pY hl) r2 h) λr s' hq=>?_);cases r with
 |error e=>exact hx pins σ H s e s' I hq
 |ok fl=>
  cases fl with
  |ret u=>exact I.after hq
  |next=>exact False.elim hq
  |brk=>exact False.elim hq
  |cont=>exact False.elim hq
variable {p:Pos}
theorem rY(F:gn X.prog X.w X.K X.mg X.base CX k f fd ps sp)(hr:cg k X.A)(hg:Gl X x)(hm:X.mg x=some (.ref f))(hk:keepIn X.K (.ref f)=true)(hb:Binds X.K fd ps ds)(hd:Vals xT ds)(hx:Passes CX X E)(ha:PA X (e::es) t)(iP:(x==("__debug__" : Str))=false:=by decide)(he:starEach (e::es) X.env=(false,eval e X.env)::starEach es X.env:=by rfl)(dJ:(backTo pos (starEach es X.env)).any (·.1)=false:=by rfl):
  PE X (.Call (.Name x p) (e::es) [] pos) (KD sp xT E t):=by
 intro pins s σ H Q I h;refine wpAny_Call_Name_kw (Cy I hg hm ?_ iP);refine PySem.W.callWith_K (h₀:=X.base) I.ok.mod.uR hk (cz (ha pos pins s σ H _ I h) λus s1 ⟨vs,H1,I1,r,q⟩=>⟨I1.pY,?_⟩) he dJ;exact OG F hr hb hd hx I1 r q
structure fV (N P:List Str) (sc:Scope):Prop where
 kind:sc.kind=.function
 co:sc.isCoroutine=false
 gen:sc.isGenerator=false
 nd:N.Nodup
 pre:N.take P.length=P
 par:∀x∈P,sc.names.lookup x=some .local\/sc.names.lookup x=some .cell
 Pr:∀y∈sc.names,y.2≠.free
theorem xY{kindOf:Str->Option NameKind}{x:Str}:∀{binds:List (Str×Value)} {m:Str->Option Value},(∀v,(x,v)∉binds)->bindL kindOf binds m x=m x
 |[],_,_=>rfl
 |(n,v)::r,m,h=>by
  unfold bindL;rw[xY λw hw=>h w (mem_cons_of_mem _ hw)];split
  ·have:x≠n:=by rintro rfl;exact h v mem_cons_self
   simp[this]
  ·rfl
theorem y6{kindOf:Str->Option NameKind}{x:Str}:∀{binds:List (Str×Value)} {m:Str->Option Value},(∀v,(x,v)∉binds)->bindC kindOf binds m x=m x
 |[],_,_=>rfl
 |(n,v)::r,m,h=>by
  unfold bindC;rw[y6 λw hw=>h w (mem_cons_of_mem _ hw)];split
  ·rfl
  ·have:x≠n:=by rintro rfl;exact h v mem_cons_self
   simp[this]
theorem xZ{kindOf:Str->Option NameKind}{x:Str}{v:Value}:∀{P:List Str} {vs:List Value} {i:Nat} {m:Str->Option Value},P.Nodup->P[i]?=some x->vs[i]?=some v->kindOf x=some .local->
  bindL kindOf (P.zip vs) m x=some v
 |[],_,_,_,_,h,_,_=>by simp at h
 |_::_,[],_,_,_,_,h,_=>by simp at h
 |p::P,w::vs,0,m,nd,h1,h2,hk=>by
  simp at h1 h2;subst h1;subst h2;show bindL kindOf ((p,w)::P.zip vs) m p=_;unfold bindL;rw[xY λv hv=>(nodup_cons.mp nd).1 (of_mem_zip hv).1,if_pos hk];simp
 |p::P,w::vs,i+1,m,nd,h1,h2,hk=>by
  show bindL kindOf ((p,w)::P.zip vs) m x=_;unfold bindL;exact xZ (i:=i) (nodup_cons.mp nd).2 (by simpa using h1) (by simpa using h2) hk
theorem y7{kindOf:Str->Option NameKind}{x:Str}{v:Value}:∀{P:List Str} {vs:List Value} {i:Nat} {m:Str->Option Value},P.Nodup->P[i]?=some x->vs[i]?=some v->kindOf x≠some .local->
  bindC kindOf (P.zip vs) m x=some v
 |[],_,_,_,_,h,_,_=>by simp at h
 |_::_,[],_,_,_,_,h,_=>by simp at h
 |p::P,w::vs,0,m,nd,h1,h2,hk=>by
  simp at h1 h2;subst h1;subst h2;show bindC kindOf ((p,w)::P.zip vs) m p=_;unfold bindC;rw[y6 λv hv=>(nodup_cons.mp nd).1 (of_mem_zip hv).1,if_neg hk];simp
 |p::P,w::vs,i+1,m,nd,h1,h2,hk=>by
  show bindC kindOf ((p,w)::P.zip vs) m x=_;unfold bindC;exact y7 (i:=i) (nodup_cons.mp nd).2 (by simpa using h1) (by simpa using h2) hk
def start (N:List Str) (vs:List V):St:=vs.map some++List.replicate (N.length-vs.length) none
def gY (CX:ya) (P:Program) (w:World) (K:Frag) (mg:Str->Option Value) (base:Heap) (N:List Str) (qual:Str) (scope:Scope) (f:Addr) (cd:Value) (A:Around) (outer:List Env) (s:Shared) (H:Hp) (E:XK):Cx where
 prog:=P
 w:=w
 K:=K
 mg:=mg
 base:=base
 A:=A.deeper (envOfC qual scope s.heap.objs.size f cd)
 N:=N
 aw:=s
 af:=H
 env:=envOfC qual scope s.heap.objs.size f cd
 outer:=outer
 stack:=envOfC qual scope s.heap.objs.size f cd::outer
 ex:=[]
 calm:=true
 fn:=λ_=>true
 pn:=[]
 xe:=λe s'=>wpAny (model P w) (A.deeper (envOfC qual scope s.heap.objs.size f cd)) (leaving (envOfC qual scope s.heap.objs.size f cd) e) (λ_ xj=>CX outer H s E e xj) (λe' xj=>CX outer H s E e' xj) s'
variable {n:Nat}
theorem AZ{sc:Scope}(h:sc.names.lookup x=some .cell):∃c,(cellsFrom n sc.names []).lookup x=some c:=by
 have q:=PySem.W.cellsFrom_some sc.names n [] (.inl h);exact Option.isSome_iff_exists.mp q
variable {qual:Str} {scope:Scope}
theorem GV{cd:Value}{outer:List Env}{s s1:Shared}{vs:List V}(S:fV N ps scope)(hd:A.handled=none)(e0:F1 P w K mg base A outer s H)(hl:vs.length=ps.length)(r:Vals vs us)(x:InCallC s s.heap.objs.size (bindL (envOfC qual scope s.heap.objs.size f cd).kindOf (ps.zip us) λ_=>none) (cellsFrom (s.heap.objs.size+1) scope.names []) (bindC (envOfC qual scope s.heap.objs.size f cd).kindOf (ps.zip us) λ_=>none) s1):
  Inv (gY CX P w K mg base N qual scope f cd A outer s H E) [] (start N vs) H s1:=by
 have dJ:ps.length<=N.length:=by have:=congrArg List.length S.pre;rw[length_take]at this;omega
 obtain⟨h1,tk,rfl,hk⟩:=x.done;have GB:∀b:Addr,b∉(gY CX P w K mg base N qual scope f cd A outer s H E).ex:=λb z=>absurd (show b∈([]:List Addr)from z) (by simp);refine⟨⟨e0.mod,S.kind,rfl,rfl,le_refl _,λy z c h1 h2=>?_,λy hy=>?_,λy c _ h=>?_,λ_=>hd,Around.frames_deeper e0.frames,.inr ⟨rfl,rfl⟩,λb z=>absurd z (GB b),e0.bs,e0.B1,λb _ _=>GB b,λb z=>absurd z (GB b),e0.mR,e0.CL⟩,
  rfl,e0.bare,Un.kept hk,⟨_,x.toInCall.ns,λi y v h1 h2 h3=>?_⟩,λy c h=>⟨_,x.cell y c h⟩,e0.bR.fresh (le_refl _),λy c h=>?_,λp hp=>absurd (show p∈([]:List (Addr×Obj))from hp) (by simp),e0.bR.kept hk,?_⟩
 ·exact name_of_addr x.apart (PySem.mem_of_lookup h1) (PySem.mem_of_lookup h2)
 ·have hy:scope.names.lookup y=some .cell\/scope.names.lookup y=some .free:=hy;rcases hy with hy|hy
  ·exact AZ hy
  ·exact absurd rfl (S.Pr _ (PySem.mem_of_lookup hy))
 ·exact Nat.le_of_lt (x.above y c (PySem.mem_of_lookup h))
 ·have hi:i<vs.length:=by
   unfold start at h2;by_cases hi:i<vs.length
   ·exact hi
   ·rw[getElem?_append_right (by simpa using hi)]at h2;rw[getElem?_replicate]at h2;split at h2<;>cases h2
  have ha:vs[i]?=some v:=by
   unfold start at h2;rw[getElem?_append_left (by simpa using hi),getElem?_map]at h2;cases e:vs[i]? with
   |none=>rw[e]at h2;cases h2
   |some a=>rw[e]at h2;cases h2;rfl
  obtain⟨u,hu,rv⟩:=r.get ha;have hp:ps[i]?=some y:=by
   rw[<- S.pre,List.getElem?_take_of_lt (by omega)];exact h1
  have TN:ps.Nodup:=by rw[<- S.pre];exact S.nd.sublist (List.take_sublist _ _)
  refine⟨u,rv,?_⟩;rcases S.par y (mem_of_getElem? hp)with k|k
  ·exact .inl ⟨k,xZ TN hp hu k⟩
  ·obtain⟨c,e⟩:=AZ (n:=s.heap.objs.size+1) k;refine .inr ⟨.inl k,c,e,?_⟩;have q:=x.cell y c e;rw[y7 TN hp hu (by show scope.names.lookup y≠_;rw[k];decide)]at q;exact q
 ·exact e0.bR.fresh (Nat.le_of_lt (x.above y c (PySem.mem_of_lookup h)))
 ·unfold start;show _=N.length;rw[length_append,length_map,length_replicate];omega
variable {doc pm bC ct oc:Value} {an od:Option Addr} {sU:Array (Option Value)}
theorem T1{name:Str}{params:Arguments}{dV kV:Value}(lk:K.lookup f=some ⟨oc,od,.func (fnOf name qual params body scope dV kV doc pm an bC ct),sU⟩)(fG:codeIn K bC qual=true)(S:fV N ps scope)(len:∀vs H Q E,sp vs H Q E->vs.length=ps.length)(hbody:∀(A:Around) (outer:List Env) (s:Shared) (H:Hp) (vs:List V) (Q:VK) (E:XK),cg k (A.deeper (envOfC qual scope s.heap.objs.size f bC))->sp vs H Q E->
   ∃t,lF (gY CX P w K mg base N qual scope f bC A outer s H E) body t/\t {nx:=λ_ H'=>Q .bW H',rt:=Q} (start N vs) H):
  gn P w K mg base CX (k+1) f (fnOf name qual params body scope dV kV doc pm an bC ct) ps sp:=by
 refine⟨len,λA outer s H args us vs Q E hr e0 hb r lO=>?_⟩;have hl:=len _ _ _ _ lO;have KX:K.In s.heap:=e0.mod.uR.keeps λb o e=>(e0.bs b o e).1;have lim:s.heap.NoLimit:=e0.mod.nolimit.keeps λb o e=>(e0.bs b o e).1;have SS:∀y∈ps.zip us,scope.names.lookup y.1=some .local\/(scope.names.lookup y.1=some .cell/\((cellsFrom (s.heap.objs.size+1) scope.names []).lookup y.1).isSome=true):=fun⟨n,v⟩ hy=>by
  rcases S.par n (of_mem_zip hy).1 with q|q
  ·exact .inl q
  ·exact .inr ⟨q,PySem.W.cellsFrom_some _ _ _ (.inl q)⟩
 refine codeAny_call_function hr.depth (KX _ _ lk) rfl S.co S.gen rfl (PySem.W.codeRec_of KX fG) (hb _ _ _ _ ?_);refine wpAny_newFunctionEnv_cells S.kind SS λenv he s1 x=>?_;subst he;refine⟨lim.keeps x.toInCall.keep,codeAny_func ?_⟩;obtain⟨t,ht,hq⟩:=hbody A outer s H vs Q E (hr.deeper _) lO;have I:Inv (gY CX P w K mg base N qual scope f bC A outer s H E) [] (start N vs) H s1:=GV S hr.hd e0 hl r x;refine wpAny_mono (ht [] s1 (start N vs) H _ I hq) (λfl s' hs=>?_) λe s' hs=>hs;have fin:∀{bJ:St} {H':Hp} {v:V} {u:Value},Inv (gY CX P w K mg base N qual scope f bC A outer s H E) [] bJ H' s'->RelV v u->Q v H'->CE outer P w H s Q u s':=
  fun{bJ H' v u} J rv q=>⟨v,H',J.os,J.bare,J.base,J.bR,rv,q⟩
 cases fl with
 |ret u=>
  obtain⟨v,bJ,H',J,rv,q⟩:=hs;exact fin J rv q
 |next=>
  obtain⟨bJ,H',J,q⟩:=hs;exact fin (v:=V.bW) (u:=Value.none) J rfl q
 |brk=>
  obtain⟨_,_,_,q⟩:=hs;exact False.elim q
 |cont=>
  obtain⟨_,_,_,q⟩:=hs;exact False.elim q
open PySem PySem.Spec PyProof.Rows
variable {r:List V->Hp->VK->Prop}
def Ot (r:List V->Hp->VK->Prop) (t:TA):TE:=λσ H Q=>t σ H λvs H1=>r vs H1 Q
variable {id:String}
theorem zC(hc:km X (.builtin id) r)(hg:Gl X x)(hm:X.mg x=none)(hv:bootBuiltins x=some (.builtin id))(ha:PA X (e::es) t)(hn:x≠"__name__":=by decide)(iP:(x==("__debug__" : Str))=false:=by decide)(he:starEach (e::es) X.env=(false,eval e X.env)::starEach es X.env:=by rfl)(dJ:(backTo pos (starEach es X.env)).any (·.1)=false:=by rfl):PE X (.Call (.Name x p) (e::es) [] pos) (Ot r t):=by
 intro pins s σ H Q I h;refine wpAny_Call_Name_kw (oB I hg hm hv ?_ hn iP);exact PyProof.Rows.callWith_builtin1 (cz (ha pos pins s σ H _ I h) λus s1 ⟨vs,H1,I1,r1,q1⟩=>hc pins s1 σ H1 vs us Q I1 r1 q1) he dJ
variable {T:String}
theorem qJ(hc:km X (.type T) r)(hg:Gl X x)(hm:X.mg x=none)(hv:bootBuiltins x=some (.type T))(ha:PA X (e::es) t)(hn:x≠"__name__":=by decide)(iP:(x==("__debug__" : Str))=false:=by decide)(he:starEach (e::es) X.env=(false,eval e X.env)::starEach es X.env:=by rfl)(dJ:(backTo pos (starEach es X.env)).any (·.1)=false:=by rfl):PE X (.Call (.Name x p) (e::es) [] pos) (Ot r t):=by
 intro pins s σ H Q I h;refine wpAny_Call_Name_kw (oB I hg hm hv ?_ hn iP);exact PyProof.Rows.callWith_type1 (cz (ha pos pins s σ H _ I h) λus s1 ⟨vs,H1,I1,r1,q1⟩=>hc pins s1 σ H1 vs us Q I1 r1 q1) he dJ
end
end L2
namespace HT
noncomputable section
open PySem PyProof.Rows
def cw (n d:Nat):Option Int->Nat
 |none=>d
 |some v=>if v<0 then(v+(n:Int)).toNat else min v.toNat n
theorem p0(n d:Nat):cw n d none=d:=rfl
theorem oo(n d k:Nat):cw n d (some (k:Int))=min k n:=by
 show(if(k:Int)<0 then((k:Int)+(n:Int)).toNat else min (k:Int).toNat n)=min k n;rw[if_neg (by omega),toNat_natCast]
theorem OE(n d:Nat)(hd:d<=n)(o:Option Int):cw n d o<=n:=by
 cases o with
 |none=>exact hd
 |some v=>
  show(if v<0 then(v+(n:Int)).toNat else min v.toNat n)<=n;by_cases hv:v<0
  ·rw[if_pos hv];omega
  ·rw[if_neg hv];exact Nat.min_le_right _ _
theorem Dh(v:Int)(n d:Nat):(if v<0 then max (v+(n:Int)) 0 else min v (n:Int))=((cw n d (some v):Nat):Int):=by
 show(if v<0 then max (v+(n:Int)) 0 else min v (n:Int))=(((if v<0 then(v+(n:Int)).toNat else min v.toNat n):Nat):Int);by_cases hv:v<0
 ·simp only[if_pos hv];omega
 ·simp only[if_neg hv];omega
theorem EB(lo hi:Option Int)(n:Nat):Builtin.Slice.sliceAdjust lo hi 1 (n:Int)=(((cw n 0 lo:Nat):Int),((cw n n hi:Nat):Int)):=by
 have h1:¬((1:Int)<0):=by omega
 unfold Builtin.Slice.sliceAdjust;simp only[h1,if_false];refine Prod.ext ?_ ?_
 ·cases lo with
  |none=>rfl
  |some v=>exact Dh v n 0
 ·cases hi with
  |none=>rfl
  |some v=>exact Dh v n n
theorem DZ(i j:Nat):Builtin.Slice.slicePlaces (i:Int) (j:Int) 1=j-i:=by
 unfold Builtin.Slice.slicePlaces;have h1:(1:Int)>0:=by omega
 simp only[h1,if_true,Int.ediv_one];split<;>omega
variable {E:Value->Shared->Prop} {prog:Program} {A:Around} {w:World} {v:Value}
variable {s:Shared} in
theorem uC{o:Option Int}{Q:Option Int->Shared->Prop}(p:IsPart v o)(h:Q o s):wpAny (model prog w) A (Builtin.Slice.slicePartIndex v) Q E s:=by
 cases p with
 |none=>exact slicePart_none h
 |int i t=>exact slicePart_int h
variable {n:Nat}
variable {s:Shared} in
theorem tw{sl:Addr}{vl vu:Value}{lo hi:Option Int}{Q:Int×Int×Nat->Shared->Prop}(hs:s.heap.IsSliceOf sl vl vu .none)(pl:IsPart vl lo)(pu:IsPart vu hi)(h:Q (((cw n 0 lo:Nat):Int),1,cw n n hi-cw n 0 lo) s):wpAny (model prog w) A (Builtin.Slice.sliceApplied (.ref sl) (pure (n:Int))) Q E s:=by
 obtain⟨os,pZ,Up,Lp⟩:=id hs;unfold Builtin.Slice.sliceApplied Builtin.Slice.sliceFields;refine wpAny_bind (wpAny_bind (wpAny_field pZ Lp (x:=vl) rfl (wpAny_bind (wpAny_field pZ Lp (x:=vu) rfl (wpAny_bind (wpAny_field pZ Lp (x:=.none) rfl (wpAny_pure ?_)))))));refine wpAny_bind (slicePart_none ?_);show wpAny _ _ (if((1:Int)==0)=true then _ else _) _ _ s;rw[if_neg (by decide)];refine wpAny_bind (uC pl (wpAny_bind (uC pu (wpAny_bind (wpAny_pure ?_)))));show wpAny _ _ (match Builtin.Slice.sliceAdjust lo hi 1 (n:Int)with|(lo,hi)=>pure (lo,(1:Int),Builtin.Slice.slicePlaces lo hi 1)) _ _ s
 rw[EB lo hi n];show wpAny _ _ (pure (((cw n 0 lo:Nat):Int),(1:Int),Builtin.Slice.slicePlaces ((cw n 0 lo:Nat):Int) ((cw n n hi:Nat):Int) 1)) _ _ s;rw[DZ];exact wpAny_pure h
theorem Jc(xs:Array Value)(i k:Nat):((List.range k).filterMap fun(m:Nat)=>xs[((i:Int)+(m:Int)*1).toNat]?).toArray=((xs.toList.drop i).take k).toArray:=by
 have e:(fun(m:Nat)=>xs[((i:Int)+(m:Int)*1).toNat]?)=λm=>xs[i+m]?:=by
  funext m
  have:((i:Int)+(m:Int)*1).toNat=i+m:=by omega
  rw[this]
 rw[e];have:=pick_run xs i k;rw[List.filterMap_map]at this;have e2:((λx=>xs[x]?) ∘ λx=>i+x)=λm=>xs[i+m]?:=rfl;rw[e2]at this;rw[this]
variable {s:Shared} in
theorem sL{t sl:Addr}{items:Array Value}{vl vu:Value}{lo hi:Option Int}{Q:Value->Shared->Prop}(ht:IsTup s.heap t items)(hs:s.heap.IsSliceOf sl vl vu .none)(pl:IsPart vl lo)(pu:IsPart vu hi)(hw:¬(cw items.size 0 lo=0/\cw items.size items.size hi=items.size))(h:Q (.ref s.heap.objs.size) {s with heap:=s.heap.push {cls:=.type "tuple",data:=.seq ((items.toList.drop (cw items.size 0 lo)).take (cw items.size items.size hi-cw items.size 0 lo)).toArray}})(hsz:items.size<=sizeLine):wpAny (model prog w) A (getItem (.ref t) (.ref sl)) Q E s:=by
 have yw:sizeOk (.seq ((items.toList.drop (cw items.size 0 lo)).take (cw items.size items.size hi-cw items.size 0 lo)).toArray):=by
  show((items.toList.drop (cw items.size 0 lo)).take (cw items.size items.size hi-cw items.size 0 lo)).toArray.size<=sizeLine;rw[size_toArray,length_take,length_drop,length_toList];omega
 have hj:cw items.size items.size hi<=items.size:=OE _ _ (le_refl _) hi;obtain⟨os,pZ,Up,Lp⟩:=id hs;have XT:s.TypeIs (.ref sl) "slice":=⟨os,pZ,Up⟩;unfold getItem;try with_reducible refine wpAny_holding ?_
 first|refine wpAny_bind (wpAny_pure ?_)|skip
 refine wpAny_bind (wpAny_sequenceKey ht.typeIs (by decide) ?_);refine wpAny_bind (wpAny_callSpecial?_slot (name:=Str.ofString "__getitem__") ht.typeIs PyProof.Rows.slot_tuple_getitem
  (wpAny_call_entry PyProof.Rows.slot_tuple_getitem ht.typeIs entry_tuple_getitem ?_ (args_tuple_getitem _ _)))
 show wpAny _ _ (Builtin.Tuple.tupleItemsOf (.ref t) >>= _) _ _ s;refine wpAny_bind (tupleItemsOf_ ht ?_);refine wpAny_bind (wpAny_typeOf XT ?_);rw[if_pos (by decide)];refine wpAny_bind (tw hs pl pu ?_);have A7:¬((((cw items.size 0 lo:Nat):Int)==0&&(1:Int)==1&&(cw items.size items.size hi-cw items.size 0 lo)==items.size)=true):=by
  intro q;rw[and_eq_true,and_eq_true]at q;have q1:((cw items.size 0 lo:Nat):Int)=0:=eq_of_beq q.1.1;have q2:cw items.size items.size hi-cw items.size 0 lo=items.size:=eq_of_beq q.2;exact hw ⟨by omega,by omega⟩
 show wpAny _ _ (if(((cw items.size 0 lo:Nat):Int)==0&&(1:Int)==1&&(cw items.size items.size hi-cw items.size 0 lo)==items.size)=true then _ else _) _ _ s;rw[if_neg A7,Jc];first
  |exact wpAny_bind (m:=Builtin.Tuple.tupleExact _) (wpAny_newObj_type (wpAny_pure ⟨_,rfl,wpAny_pure h⟩) yw)
  |exact wpAny_bind (m:=Builtin.Tuple.tupleExact _) (wpAny_newObj_type (wpAny_bind (wpAny_pure (wpAny_pure ⟨_,rfl,wpAny_pure h⟩))) yw)
  |exact wpAny_bind (wpAny_bind (m:=Builtin.Tuple.tupleExact _) (wpAny_newObj_type (wpAny_pure (wpAny_pure ⟨_,rfl,wpAny_pure h⟩)) yw))
  |exact wpAny_bind (wpAny_bind (m:=Builtin.Tuple.tupleExact _) (wpAny_newObj_type (wpAny_pure ⟨_,rfl,wpAny_pure h⟩) yw))
end
end HT
namespace L2
noncomputable section
open PySem PySem.Spec PyProof.Rows
abbrev TO:=St->Hp->(Option Int->Hp->Prop)->Prop
def PO (X:Cx) (e:Option Expr) (t:TO):Prop:=
 ∀(pins:List (Addr×Obj)) (s:Shared) (σ:St) (H:Hp) (Q:Option Int->Hp->Prop),Inv X pins σ H s->t σ H Q->
  wpAny (model X.prog X.w) X.A (evalPart e X.env) (λu s'=>∃o H',Inv X pins σ H' s'/\IsPart u o/\Q o H') X.xe s
def Mm:TO:=λ_ H Q=>Q none H
def S9 (t:TE):TO:=λσ H Q=>t σ H λx H1=>∃i,x=.int i/\Q (some i) H1
variable {X:Cx}
theorem MP:PO X none Mm:=by
 intro pins s σ H Q I h;rw[evalPart_none];exact wpAny_pure ⟨none,H,I,.none,h⟩
variable {te:TE} {e:Expr}
theorem MO(h:PE X e te):PO X (some e) (S9 te):=by
 intro pins s σ H Q I hw;rw[evalPart_some];refine cz (h pins s σ H _ I hw) λu s1 ⟨x,H1,I1,r1,q1⟩=>?_;obtain⟨i,rfl,q⟩:=q1;obtain⟨t,rfl⟩:=r1;exact⟨some i,H1,I1,.int i t,q⟩
variable {lo hi:Option Expr}
def Bb (X:Cx) (r:V->Option Int->Option Int->Hp->VK->Prop):Prop:=
 ∀(pins:List (Addr×Obj)) (s:Shared) (σ:St) (H:Hp) (x:V) (v vl vu:Value) (lo hi:Option Int) (sl:Addr) (Q:VK),Inv X pins σ H s->RelV x v->s.heap.IsSliceOf sl vl vu .none->IsPart vl lo->IsPart vu hi->r x lo hi H Q->
  ∃T id,typeLookup (.type T) "__getitem__"=pure (some (.builtin id))/\s.TypeIs v T/\wpAny (model X.prog X.w) X.A (getItem v (.ref sl)) (EP X pins σ Q) X.xe s
theorem Bb.or{r r':V->Option Int->Option Int->Hp->VK->Prop}(h:Bb X r)(h':Bb X r'):Bb X (λx lo hi H Q=>r x lo hi H Q\/r' x lo hi H Q):=by
 intro pins s σ H x v vl vu lo hi sl Q I rx hs pl pu q;rcases q with q|q
 ·exact h pins s σ H x v vl vu lo hi sl Q I rx hs pl pu q
 ·exact h' pins s σ H x v vl vu lo hi sl Q I rx hs pl pu q
variable {th tl:TO}
def WQ (r:V->Option Int->Option Int->Hp->VK->Prop) (te:TE) (tl th:TO):TE:=λσ H Q=>te σ H λx H1=>tl σ H1 λl H2=>th σ H2 λu H3=>r x l u H3 Q
variable {p2 pos:Pos}
theorem Jg{r:V->Option Int->Option Int->Hp->VK->Prop}(hr:Bb X r)(he:PE X e te)(hl:PO X lo tl)(hu:PO X hi th):PE X (.Subscript e (.Slice lo hi none p2) pos) (WQ r te tl th):=by
 intro pins s σ H Q I h;refine Subscript_ (cz (he pins s σ H _ I h) λv s1 ⟨x,H1,I1,r1,q1⟩=>?_);refine wpAny_Slice (cz (hl pins s1 σ H1 _ I1 q1) λvl s2 ⟨l,H2,I2,pl,q2⟩=>cz (hu pins s2 σ H2 _ I2 q2) λvu s3 ⟨u,H3,I3,pu,q3⟩=>?_);rw[evalPart_none];refine wpAny_pure ?_;have I4:Inv X pins σ H3 {s3 with heap:=s3.heap.push {cls:=.type "slice",data:=.fields #[vl,vu,.none]}}:=I3.kept (t':=s3.toks) λb ob q=>get?_push_of_some _ q;obtain⟨T,id,hT,ht,hg⟩:=hr pins {s3 with heap:=s3.heap.push {cls:=.type "slice",data:=.fields #[vl,vu,.none]}} σ H3 x v vl vu l u s3.heap.objs.size Q I4 r1 (Heap.IsSliceOf.new ..) pl pu q3;show wpAny (model X.prog X.w) X.A (subscriptTail e (.Slice lo hi none p2) v (.ref s3.heap.objs.size)) (EP X pins σ Q) X.xe {s3 with heap:=s3.heap.push {cls:=.type "slice",data:=.fields #[vl,vu,.none]}};exact tail_any (ops:=[.ref s3.heap.objs.size,v]) ht hT hg (by with_unfolding_all rfl)
def rq (xs:List V) (lo hi:Option Int):List V:=(xs.drop (HT.cw xs.length 0 lo)).take (HT.cw xs.length xs.length hi-HT.cw xs.length 0 lo)
theorem t9(xs:List V)(lo hi:Option Int):(rq xs lo hi).length<=xs.length:=by
 unfold rq;rw[length_take,length_drop];omega
def VP (K:Frag):V->Option Int->Option Int->Hp->VK->Prop:=λx lo hi H Q=>∃a xs,x=.ref a/\j6 K H a xs/\
 ¬(HT.cw xs.length 0 lo=0/\HT.cw xs.length xs.length hi=xs.length)/\∀p,H p=none->Q (.ref p) (upd H p (.tup (rq xs lo hi)))
theorem Oy:Bb X (VP X.K):=by
 intro pins s σ H x v vl vu lo hi sl Q I rx hs pl pu h;obtain⟨a,xs,rfl,hx,hw,q⟩:=h;cases rx;obtain⟨aq,r,ht,hz⟩:=I.tuple hx;have hlen:aq.toArray.size=xs.length:=by rw[size_toArray];exact r.length.symm
 refine⟨"tuple",_,PyProof.Rows.slot_tuple_getitem.lookup,ht.typeIs,?_⟩;refine HT.sL ht hs pl pu (by rw[hlen];exact hw) ?_ (by rw[hlen];exact hz);rw[hlen];refine⟨.ref s.heap.objs.size,_,I.laid (t':=s.toks) (o:=.tup (rq xs lo hi)) (λb ob q=>get?_push_of_some _ q) (le_refl _) ?_,rfl,q _ (I.bR.fresh (le_refl _))⟩;exact⟨le_trans (t9 xs lo hi) hz,_,(r.drop (HT.cw xs.length 0 lo)).take (HT.cw xs.length xs.length hi-HT.cw xs.length 0 lo),IsTup.new _ _⟩
variable {xs:List V}
theorem Vals.sh{us:List Value}(r:Vals xs us):us=[]↔xs=[]:=by
 cases r with
 |nil=>simp
 |cons _ _=>simp
open PySem PySem.Spec PyProof.Rows
def lM (n:Nat) (i:Int):Option Nat:=if 0<=i then(if i<n then some i.toNat else none)else if -(n:Int)<=i then some (i+n).toNat else none
def gH {α:Type} (xs:List α) (i:Int):Option α:=(lM xs.length i).bind λj=>xs[j]?
variable {n j:Nat}
theorem Cz{i:Int}(h:lM n i=some j):seqIndex? i n=some j/\j<n/\-(n:Int)<=i/\i<n:=by
 unfold lM at h;by_cases h0:0<=i
 ·rw[if_pos h0]at h;by_cases h1:i<n
  ·rw[if_pos h1]at h;have e:i.toNat=j:=Option.some.inj h;exact⟨by rw[seqIndex_of h0 h1,e],by omega,by omega,h1⟩
  ·rw[if_neg h1]at h;cases h
 ·rw[if_neg h0]at h;by_cases h1: -(n:Int)<=i
  ·rw[if_pos h1]at h;have e:(i+n).toNat=j:=Option.some.inj h;exact⟨by rw[seqIndex_neg (by omega) h1,e],by omega,h1,by omega⟩
  ·rw[if_neg h1]at h;cases h
variable {α:Type}
theorem Dm{xs:List α}{i:Int}{v:α}(h:gH xs i=some v):∃j,seqIndex? i xs.length=some j/\xs[j]?=some v/\j<xs.length/\-(xs.length:Int)<=i/\i<xs.length:=by
 unfold gH at h;cases e:lM xs.length i with
 |none=>rw[e]at h;cases h
 |some j=>
  rw[e]at h;obtain⟨h1,h2,h3,h4⟩:=Cz e;exact⟨j,h1,h,h2,h3,h4⟩
def wQ (b:Expr):Prop:=∀o i,subscripted b false o i=operate [o,i] (getItem o i)
def Bg (X:Cx) (r:R2):Prop:=
 ∀(value slice:Expr) (pins:List (Addr×Obj)) (s:Shared) (σ:St) (H:Hp) (x y:V) (v u:Value) (Q:VK),Inv X pins σ H s->RelV x v->RelV y u->r x y H Q->
  subscripted slice false v u=operate [v,u] (getItem v u)->wpAny (model X.prog X.w) X.A (subscriptTail value slice v u) (EP X pins σ Q) X.xe s
def YY (X:Cx) (id:String) (r:V->List V->Hp->VK->Prop):Prop:=
 ∀(pins:List (Addr×Obj)) (s:Shared) (σ:St) (H:Hp) (x:V) (xs:List V) (v:Value) (us:List Value) (Q:VK),Inv X pins σ H s->RelV x v->Vals xs us->r x xs H Q->
  wpAny (model X.prog X.w) X.A (call (.builtin id) (v::us)) (EP X pins σ Q) X.xe s
theorem Bg.or{r r':R2}(h:Bg X r)(h':Bg X r'):Bg X (λx y H Q=>r x y H Q\/r' x y H Q):=by
 intro value slice pins s σ H x y v u Q I rx ry q hs;rcases q with q|q
 ·exact h value slice pins s σ H x y v u Q I rx ry q hs
 ·exact h' value slice pins s σ H x y v u Q I rx ry q hs
variable {tb ta:TE} {b a:Expr}
theorem KR{r:R2}(hr:Bg X r)(ha:PE X a ta)(hb:PE X b tb)(hs:wQ b):PE X (.Subscript a b pos) (BR r ta tb):=by
 intro pins s σ H Q I h;exact Subscript_ (Kd ha hb I h λv u s2 x y H2 I2 rx ry q=>hr a b pins s2 σ H2 x y v u Q I2 rx ry q (hs _ _))
def OO (K:Frag):R2:=λx y H Q=>∃p xs i v,x=.ref p/\y=.int i/\fk K H p xs/\gH xs i=some v/\Q v H
def ON (K:Frag):R2:=λx y H Q=>∃p xs i v,x=.ref p/\y=.int i/\j6 K H p xs/\gH xs i=some v/\Q v H
theorem gE:Bg X (OO X.K):=by
 intro value slice pins s σ H x y v u Q I rx ry h hs;obtain⟨p,xs,i,z,rfl,rfl,hq,he,q⟩:=h;cases rx;obtain⟨t,rfl⟩:=ry;obtain⟨aq,r,pl,hz⟩:=I.list hq;obtain⟨j,h1,h2,h3,h4,h5⟩:=Dm he;obtain⟨w,ew,qx⟩:=r.get h2;have hl:=r.length;have hn:=qP;have fin:EP X pins σ Q w s:=⟨z,H,I,qx,q⟩;by_cases h0:0<=i
 ·have hj:i.toNat=j:=by
   rw[seqIndex_of h0 h5]at h1;exact Option.some.inj h1
  exact item_listR pl.isList h0 (by omega) (by rw[hj];simpa using ew) fin hs
 ·have hj:(i+(aq.toArray.size:Int)).toNat=j:=by
   rw[seqIndex_neg (by omega) h4]at h1;rw[size_toArray,<- hl];exact Option.some.inj h1
  exact subscriptTail_builtinR (x:=w) pl.isList.typeIs slot_list_getitem.lookup
   (wpAny_getItem_list_neg (Q:=λr s'=>r=w/\EP X pins σ Q r s') pl.isList (by omega) (by rw[size_toArray]<;>omega) (by omega) (by rw[hj];simpa using ew) ⟨rfl,fin⟩) hs
theorem GQ:Bg X (ON X.K):=by
 intro value slice pins s σ H x y v u Q I rx ry h hs;obtain⟨p,xs,i,z,rfl,rfl,hq,he,q⟩:=h;cases rx;obtain⟨t,rfl⟩:=ry;obtain⟨aq,r,pl,hz⟩:=I.tuple hq;obtain⟨j,h1,h2,h3,h4,h5⟩:=Dm he;obtain⟨w,ew,qx⟩:=r.get h2;have hl:=r.length;have hn:=qP;have fin:EP X pins σ Q w s:=⟨z,H,I,qx,q⟩;exact subscriptTail_builtinR (x:=w) pl.typeIs slot_tuple_getitem.lookup
  (getItem_tuple (j:=j) (Q:=λr s'=>r=w/\EP X pins σ Q r s') pl (by omega) (by omega) (by rw[size_toArray,<- hl];exact h1) (by simpa using ew) ⟨rfl,fin⟩) hs
theorem E9(aq:List Value)(n j:Nat)(u:Value):Obj.mapSeq (·.setIfInBounds j u) {cls:=.type "list",data:=.seq aq.toArray n}={cls:=.type "list",data:=.seq (aq.set j u).toArray n}:=by
 simp[Obj.mapSeq]
theorem Inv.lst{pins:List (Addr×Obj)}{σ:St}{H:Hp}{s:Shared}{p:Addr}{xs:List V}(I:Inv X pins σ H s)(h:H p=some (.lst xs)):
  ∃(aq:List Value) (n:Nat),Vals xs aq/\s.heap.get? p=some {cls:=.type "list",data:=.seq aq.toArray n}/\xs.length<=sizeLine:=by
 obtain⟨z,aq,n,r,e⟩:=I.bR p _ h;exact⟨aq,n,r,e,z⟩
variable {pins:List (Addr×Obj)} {H:Hp} {p:Addr} {ys:List V} {aq:List Value}
theorem Inv.PD{σ:St}{s:Shared}{its':List Value}{n':Nat}{f:Obj->Obj}(I:Inv X pins σ H s)(h:H p=some (.lst xs))(ho:s.heap.get? p=some {cls:=.type "list",data:=.seq aq.toArray n})(hf:f {cls:=.type "list",data:=.seq aq.toArray n}={cls:=.type "list",data:=.seq its'.toArray n'})(r:Vals ys its')(hz:ys.length<=sizeLine)(t:Nat):
  Inv X pins σ (upd H p (.lst ys)) {s with heap:=s.heap.update p f,toks:=t}:=by
 have e:(s.heap.update p f).get? p=some {cls:=.type "list",data:=.seq its'.toArray n'}:=by
  rw[Heap.get?_update_self f ho (by rw[hf]<;>rfl),hf]
 refine I.write (x:=p) (e:=p) (by rw[h];trivial) (.inl rfl) (λb u hb q=>(Heap.get?_update_other _ _ (Ne.symm hb)).trans q) ⟨_,e⟩ ?_;exact⟨hz,its',n',r,e⟩
def Sm:V->V->V->Hp->(Hp->Prop)->Prop:=λo i v H Q=>∃p xs k j,o=.ref p/\i=.int k/\H p=some (.lst xs)/\lM xs.length k=some j/\Q (upd H p (.lst (xs.set j v)))
theorem set_list:Kj X Sm:=by
 intro pins s σ H o i v ov iv u Q I ro ri rv h;obtain⟨p,xs,k,j,rfl,rfl,hp,hj,q⟩:=h;cases ro;obtain⟨t,rfl⟩:=ri;obtain⟨aq,n,r,ho,hz⟩:=I.lst hp;obtain⟨h1,h2,h3,h4⟩:=Cz hj;have hl:=r.length;have hn:=qP;have I':Inv X pins σ (upd H p (.lst (xs.set j v))) {s with heap:=s.heap.update p (Obj.mapSeq (·.setIfInBounds j u))}:=
  I.PD hp ho (E9 aq n j u) (r.set rv j) (by rw[length_set];exact hz) s.toks
 by_cases h0:0<=k
 ·have hk:k.toNat=j:=by
   rw[seqIndex_of h0 h4]at h1;exact Option.some.inj h1
  exact PySem.W.ki_setAt ho h0 (by omega) (by rw[size_toArray,<- hl];exact h4) (by rw[hk];exact⟨_,I',q⟩)
 ·have hk:(k+(aq.toArray.size:Int)).toNat=j:=by
   rw[seqIndex_neg (by omega) h3]at h1;rw[size_toArray,<- hl];exact Option.some.inj h1
  exact PySem.W.ki_setBack ho (by omega) (by rw[size_toArray,<- hl];exact h3) (by omega) (by rw[hk];exact⟨_,I',q⟩)
theorem yT(lo hi:Option Int)(n:Nat):(sliceBounds lo hi none n).1=((HT.cw n 0 lo:Nat):Int)/\(sliceBounds lo hi none n).2.1=((HT.cw n n hi:Nat):Int)/\(sliceBounds lo hi none n).2.2=1:=by
 refine⟨?_,?_,rfl⟩
 ·cases lo with
  |none=>simp[sliceBounds,HT.cw]
  |some i=>
   simp only[sliceBounds,HT.cw,Option.getD_none,show(1:Int)>0 by decide,if_true];by_cases h:i<0
   ·simp only[h,if_true]<;>omega
   ·simp only[h,if_false]<;>omega
 ·cases hi with
  |none=>simp[sliceBounds,HT.cw]
  |some i=>
   simp only[sliceBounds,HT.cw,Option.getD_none,show(1:Int)>0 by decide,if_true];by_cases h:i<0
   ·simp only[h,if_true]<;>omega
   ·simp only[h,if_false]<;>omega
theorem yb(aq:List Value)(lo hi:Option Int):slicePick aq.toArray lo hi none=((aq.drop (HT.cw aq.length 0 lo)).take (HT.cw aq.length aq.length hi-HT.cw aq.length 0 lo)).toArray:=by
 obtain⟨h1,h2,h3⟩:=yT lo hi aq.toArray.size;unfold slicePick;rw[h1,h2,h3];simp only[sliceRange_one,pick_run,size_toArray]<;>rfl
def VQ (K:Frag):V->Option Int->Option Int->Hp->VK->Prop:=λx lo hi H Q=>∃a xs,x=.ref a/\fk K H a xs/\∀p,H p=none->Q (.ref p) (upd H p (.lst (rq xs lo hi)))
theorem Ms:Bb X (VQ X.K):=by
 intro pins s σ H x v vl vu lo hi sl Q I rx hs pl pu h;obtain⟨a,xs,rfl,hx,q⟩:=h;cases rx;obtain⟨aq,r,ht,hz⟩:=I.list hx;have hlen:=r.length;refine⟨"list",_,slot_list_getitem.lookup,ht.isList.typeIs,?_⟩;refine wpAny_getItem_list_slice ht.isList hs pl pu .none (by simp) ?_ (by rw[size_toArray]<;>omega);rw[yb,<- hlen];refine⟨.ref s.heap.objs.size,_,I.laid (t':=s.toks) (o:=.lst (rq xs lo hi)) (λb ob q=>get?_push_of_some _ q) (le_refl _) ?_,rfl,q _ (I.bR.fresh (le_refl _))⟩;exact⟨le_trans (t9 xs lo hi) hz,_,0,(r.drop (HT.cw xs.length 0 lo)).take (HT.cw xs.length xs.length hi-HT.cw xs.length 0 lo),get?_push_size _ rfl⟩
def l9:V->Bool
 | .bW=>true
 | .bl _=>true
 | .int _=>true
 | .str _=>true
 |_=>false
def vf:V->V->Bool
 | .bW,.bW=>true
 | .bl a,.bl b=>a==b
 | .bl a,.int b=>(if a then 1 else 0)==b
 | .int a,.bl b=>a==(if b then 1 else 0)
 | .int a,.int b=>a==b
 | .str a,.str b=>a==b
 |_,_=>false
variable {A:Around} {x:V}
theorem QY{s:Shared}{y:V}{u v:Value}(ry:RelV y u)(rx:RelV x v)(fy:l9 y=true)(fx:l9 x=true):SeqAt.EqAt A s u v (vf y x):=by
 cases y with
 |bW=>
  cases ry;cases x with
  |bW=>cases rx;exact SeqAt.EqAt.same _
  |bl b=>cases rx;exact SeqAt.EqAt.none_bool b
  |int b=>obtain⟨t,rfl⟩:=rx;exact SeqAt.EqAt.none_int b t
  |str b=>obtain⟨t,rfl⟩:=rx;exact SeqAt.EqAt.none_str b t
  |_=>exact absurd (show false=true from fx) Bool.false_ne_true
 |bl a=>
  cases ry;cases x with
  |bW=>cases rx;exact SeqAt.EqAt.bool_none a
  |bl b=>cases rx;exact SeqAt.EqAt.bool_bool a b
  |int b=>obtain⟨t,rfl⟩:=rx;exact SeqAt.EqAt.bool_int a b t
  |str b=>obtain⟨t,rfl⟩:=rx;exact SeqAt.EqAt.bool_str a b t
  |_=>exact absurd (show false=true from fx) Bool.false_ne_true
 |int a=>
  obtain⟨t',rfl⟩:=ry;cases x with
  |bW=>cases rx;exact SeqAt.EqAt.int_none a t'
  |bl b=>cases rx;exact SeqAt.EqAt.int_bool a t' b
  |int b=>obtain⟨t,rfl⟩:=rx;exact SeqAt.EqAt.int_int a t' b t
  |str b=>obtain⟨t,rfl⟩:=rx;exact SeqAt.EqAt.int_str a t' b t
  |_=>exact absurd (show false=true from fx) Bool.false_ne_true
 |str a=>
  obtain⟨t',rfl⟩:=ry;cases x with
  |bW=>cases rx;exact SeqAt.EqAt.str_none a t'
  |bl b=>cases rx;exact SeqAt.EqAt.str_bool a t' b
  |int b=>obtain⟨t,rfl⟩:=rx;exact SeqAt.EqAt.str_int a t' b t
  |str b=>obtain⟨t,rfl⟩:=rx;exact SeqAt.EqAt.str_str a t' b t
  |_=>exact absurd (show false=true from fx) Bool.false_ne_true
 |_=>exact absurd (show false=true from fy) Bool.false_ne_true
def vg (x:V) (u:Value):Bool:=match u with
 | .none=>vf .bW x
 | .bool b=>vf (.bl b) x
 | .int i _=>vf (.int i) x
 | .str z _=>vf (.str z) x
 |_=>false
theorem HB{y:V}{u:Value}(r:RelV y u)(f:l9 y=true):vg x u=vf y x:=by
 cases y with
 |bW=>cases r;rfl
 |bl b=>cases r;rfl
 |int i=>obtain⟨t,rfl⟩:=r;rfl
 |str z=>obtain⟨t,rfl⟩:=r;rfl
 |_=>exact absurd (show false=true from f) Bool.false_ne_true
theorem wG{x:V}:∀{xs:List V} {us:List Value},Vals xs us->xs.all l9=true->us.any (vg x)=xs.any λy=>vf y x
 |_,_,.nil,_=>rfl
 |y::xs,u::us,.cons r t,f=>by
  rw[all_cons,and_eq_true]at f;rw[any_cons,any_cons,HB r f.1,wG t f.2]
theorem tO{A:Around}{s:Shared}{x:V}{v:Value}(rx:RelV x v)(fx:l9 x=true):∀{xs:List V} {us:List Value},Vals xs us->xs.all l9=true->∀u∈us,SeqAt.EqAt A s u v (vg x u)
 |_,_,.nil,_=>λu hu=>by cases hu
 |y::xs,u::us,.cons r t,f=>λu' hu=>by
  rw[all_cons,and_eq_true]at f;rcases mem_cons.mp hu with rfl|hu
  ·rw[HB r f.1];exact QY r rx f.1 fx
  ·exact tO rx fx t f.2 u' hu
def zW (x:V) (xs:List V):Bool:=xs.any λy=>vf y x
def Tv (K:Frag) (neg:Bool):R2:=λx y H Q=>∃p xs,y=.ref p/\(fk K H p xs\/j6 K H p xs)/\l9 x=true/\xs.all l9=true/\Q (.bl (if neg then !zW x xs else zW x xs)) H
theorem Gu:dO X (compareOp .In) (Tv X.K false):=by
 intro pins s σ H x y v u Q I rx ry h;obtain⟨p,xs,rfl,hq,fx,fs,q⟩:=h;cases ry;rcases hq with hq|hq
 ·obtain⟨aq,r,pl,hz⟩:=I.list hq;refine SeqAt.in_listAt (vg x) pl.isList (λw hw=>tO rx fx r fs w (by simpa using hw)) ⟨.bl _,H,I,rfl,?_⟩;rw[show aq.toArray.any (vg x)=aq.any (vg x) by simp,wG r fs];exact q
 ·obtain⟨aq,r,pl,hz⟩:=I.tuple hq;refine SeqAt.in_tupleAt (vg x) pl (λw hw=>tO rx fx r fs w (by simpa using hw)) ⟨.bl _,H,I,rfl,?_⟩;rw[show aq.toArray.any (vg x)=aq.any (vg x) by simp,wG r fs];exact q
theorem B0:km X (.type "list") (λxs H Q=>∃p ys,xs=[.ref p]/\(fk X.K H p ys\/j6 X.K H p ys)/\∀l,H l=none->Q (.ref l) (upd H l (.lst ys))):=by
 intro pins s σ H xs us Q I r h;obtain⟨p,ys,rfl,hq,q⟩:=h;obtain⟨u,rfl,rx⟩:=vals1 r;cases rx;have fin:∀(aq:List Value),Vals ys aq->ys.length<=sizeLine->∀(h':Heap) (c':Nat),(∀b o',s.heap.get? b=some o'->h'.get? b=some o')->
   h'.get? s.heap.objs.size=some {cls:=.type "list",dict:=none,data:=.seq aq.toArray c',slots:=#[]}->EP X pins σ Q (.ref s.heap.objs.size) {s with heap:=h'}:=λaq r' hz h' c' kp e=>
  ⟨.ref s.heap.objs.size,_,I.laid (t':=s.toks) kp (le_refl _) (show gj X.prog X.w _ h' _ (.lst ys)from⟨hz,aq,c',r',e⟩),rfl,q _ (I.bR.fresh (le_refl _))⟩
 rcases hq with hq|hq
 ·obtain⟨aq,r',pl,hz⟩:=I.list hq;have hlen:=r'.length;obtain⟨o,ho,hc,n,hd⟩:=pl.isList;exact call_list_seq p (.inl rfl) ho hc hd (λh' c' kp e=>fin aq r' hz h' c' kp e) (by simp only[size_toArray]<;>omega)
 ·obtain⟨aq,r',pl,hz⟩:=I.tuple hq;have hlen:=r'.length;obtain⟨o,ho,hc,n,hd⟩:=pl;exact call_list_seq p (.inr rfl) ho hc hd (λh' c' kp e=>fin aq r' hz h' c' kp e) (by simp only[size_toArray]<;>omega)
theorem yc:km X (.type "tuple") (λxs H Q=>∃p ys,xs=[.ref p]/\((fk X.K H p ys/\∀l,H l=none->Q (.ref l) (upd H l (.tup ys)))\/(j6 X.K H p ys/\Q (.ref p) H))):=by
 intro pins s σ H xs us Q I r h;obtain⟨p,ys,rfl,h⟩:=h;obtain⟨u,rfl,rx⟩:=vals1 r;cases rx;rcases h with⟨hq,q⟩|⟨hq,q⟩
 ·obtain⟨aq,r',pl,hz⟩:=I.list hq;have hlen:=r'.length;refine call_tuple_list pl.isList (λh' kp=>?_) (by simp only[size_toArray]<;>omega);have I1:Inv X pins σ H {s with heap:=h'}:=I.kept (t':=s.toks) kp;have I2:Inv X pins σ (upd H h'.objs.size (.tup ys)) {s with heap:=h'.push {cls:=.type "tuple",data:=.seq aq.toArray}}:=
   I1.laid (t':=s.toks) (λb o e=>get?_push_of_some _ e) (le_refl _) (show gj X.prog X.w _ _ _ (.tup ys)from⟨hz,aq,r',IsTup.new _ _⟩)
  exact⟨.ref h'.objs.size,_,I2,rfl,q _ (I1.bR.fresh (le_refl _))⟩
 ·obtain⟨aq,r',pl,hz⟩:=I.tuple hq;exact call_tuple_same pl ⟨.ref p,H,I,rfl,q⟩
def Ti (K:Frag) (T:String) (x:V) (H:Hp):Prop:=match x with
 | .str _=>T="str"
 | .int _=>T="int"
 | .ref p=>(T="list"/\∃xs,fk K H p xs)\/(T="tuple"/\∃o,K.lookup p=some o/\o.cls=.type "tuple"/\o.dict=none)\/
   (T="dict"/\((∃fO,H p=some (.dK fO))\/∃fO,H p=some (.dT fO)))\/(T="set"/\∃S n,H p=some (.set S n))
 |_=>False
variable {T:String}
theorem Og{σ:St}{s:Shared}{v:Value}(I:Inv X pins σ H s)(r:RelV x v)(ty:Ti X.K T x H):
  s.TypeIs v T/\∀a,v=.ref a->∃ob,s.heap.get? a=some ob/\ob.dict=none:=by
 cases x with
 |str z=>
  obtain⟨t,rfl⟩:=r;cases(show T="str" from ty);exact⟨typeIs_str s z t,λ_ e=>nomatch e⟩
 |int i=>
  obtain⟨t,rfl⟩:=r;cases(show T="int" from ty);exact⟨typeIs_int s i t,λ_ e=>nomatch e⟩
 |ref p=>
  cases r;rcases ty with⟨rfl,xs,hq⟩|⟨rfl,o,hk,hc,hd⟩|⟨rfl,hk⟩|⟨rfl,S,n,hk⟩
  ·obtain⟨aq,_,pl,_⟩:=I.list hq;refine⟨pl.isList.typeIs,λa e=>?_⟩;cases e;obtain⟨o,n,e,c,hd,_⟩:=pl;exact⟨o,e,hd⟩
  ·refine⟨⟨o,I.pY p o hk,hc⟩,λa e=>?_⟩;cases e;exact⟨o,I.pY _ o hk,hd⟩
  ·have z:∃o,s.heap.get? p=some o/\o.ExactDict:=by
    rcases hk with⟨fO,hk⟩|⟨fO,hk⟩
    ·obtain⟨_,_,_,_,o,_,_,e,ex,_⟩:=I.bR p _ hk;exact⟨o,e,ex⟩
    ·obtain⟨_,_,_,_,o,_,_,e,ex,_⟩:=I.bR p _ hk;exact⟨o,e,ex⟩
   obtain⟨o,e,ex⟩:=z;refine⟨⟨o,e,ex.1⟩,λa e2=>?_⟩;cases e2;exact⟨o,e,ex.2.1⟩
  ·obtain⟨o,_,_,_,e,ex,_⟩:=I.bR p _ hk;refine⟨⟨o,e,ex.1⟩,λa e2=>?_⟩;cases e2;exact⟨o,e,ex.2.1⟩
 |_=>exact False.elim ty
def WU (K:Frag) (T:String) (r:V->List V->Hp->VK->Prop) (to:TE) (t:TA):TE:=λσ H Q=>to σ H λx H1=>Ti K T x H1/\t σ H1 λxs H2=>r x xs H2 Q
variable {to:TE} {o:Expr} {r:V->List V->Hp->VK->Prop} {es:List Expr} {ue apos:Pos} {id:String} {name:Str} {t:TA}
theorem E3(pa:PlainAttrs T)(slot:Slot T name id)(Xd:typeOf (.builtin id)=pure (.type "method_descriptor"))(hm:YY X id r)(ho:PE X o to)(ha:PA X (e::es) t)(pJ:attributeBase o name X.env (eval o X.env)=eval o X.env:=by rfl)(tV:((backTo ue (starEach (e::es) X.env)).all (λx=>!x.1)&&(backToKw ue (keywordEach [] X.env)).all (λx=>x.1.isSome)
   &&decide ((e::es).length+([]:List Keyword).length+(if([]:List Keyword).isEmpty then 0 else 1)<30))=true:=by rfl)(pH:(apos.endLine==ue.line)=true:=by rfl)(hs:starEach (e::es) X.env=(false,eval e X.env)::starEach es X.env:=by rfl)(mP:(backTo ue (starEach es X.env)).any (·.1)=false:=by rfl):
  PE X (.Call (.Attribute o name apos) (e::es) [] ue) (WU X.K T r to t):=by
 intro pins s σ H Q I h;refine wpAny_Call_method_late pJ tV pH rfl (cz (ho pins s σ H _ I h) λv s1 ⟨x,H1,I1,r1,ty,q1⟩=>?_);obtain⟨h1,h2⟩:=Og I1 r1 ty;refine⟨T,id,pa,slot,Xd,h1,h2,?_⟩;have hA:=ha ue pins s1 σ H1 _ I1 q1;rw[hs]at hA ⊢;refine Calls.callWith_builtin (by show(false || (backTo ue (starEach es X.env)).any (·.1))=false;rw[mP]<;>rfl) (Calls.evalArgs_plain ?_);exact cz hA λus s2 ⟨vs,H2,I2,r2,q2⟩=>hm pins s2 σ H2 x vs v us Q I2 r1 r2 q2
open PySem PySem.Spec PyProof.Rows
def Va (X:Cx) (id:String) (r:V->List V->Hp->VK->Prop):Prop:=
 ∀(pins:List (Addr×Obj)) (s:Shared) (σ:St) (H:Hp) (x:V) (xs:List V) (v:Value) (us:List Value) (Q:VK),Inv X pins σ H s->RelV x v->Vals xs us->r x xs H Q->
  wpAny (model X.prog X.w) X.A (call (.builtin id) (v::us)) (EP X pins σ Q) X.xe s
theorem Vals.one:∀{x:V} {us:List Value},Vals [x] us->∃u,us=[u]/\RelV x u
 |_,_,.cons r .nil=>⟨_,rfl,r⟩
theorem Vals.two:∀{x y:V} {us:List Value},Vals [x,y] us->∃u v,us=[u,v]/\RelV x u/\RelV y v
 |_,_,_,.cons r (.cons q .nil)=>⟨_,_,rfl,r,q⟩
theorem Vals.rep{xs:List V}{us:List Value}(h:Vals xs us):∀k:Nat,Vals (List.replicate k xs).flatten (List.replicate k us).flatten
 |0=>.nil
 |k+1=>by
  rw[replicate_succ,replicate_succ,flatten_cons,flatten_cons];exact Vals.append h (Vals.rep h k)
theorem foldl_rep(aq:List Value):∀(k:Nat) (acc:List Value),
  foldl (λx1 x2=>x1++x2) acc.toArray (List.replicate k aq.toArray)=(acc++(List.replicate k aq).flatten).toArray
 |0,acc=>by simp
 |k+1,acc=>by
  have e:acc.toArray++aq.toArray=(acc++aq).toArray:=by simp
  have e2:(acc++aq)++(List.replicate k aq).flatten=acc++(List.replicate (k+1) aq).flatten:=by
   rw[replicate_succ,flatten_cons,append_assoc]
  rw[<- e2,<- foldl_rep aq k (acc++aq),<- e,replicate_succ,foldl_cons]
variable {σ:St} {l:Addr}
variable {s:Shared} in
theorem Inv.PJ{its':List Value}{f:Array Value->Array Value}{t':Nat}(I:Inv X pins σ H s)(hH:H l=some (.lst xs))(e:s.heap.get? l=some {cls:=.type "list",data:=.seq aq.toArray n})(hf:f aq.toArray=its'.toArray)(hv:Vals ys its')(hz:ys.length<=sizeLine):
  Inv X pins σ (upd H l (.lst ys)) {s with heap:=s.heap.update l (Obj.mapSeq f),toks:=t'}:=by
 have q:=PySem.IsL.update e f;rw[hf]at q;refine I.write (x:=l) (e:=l) (by rw[hH];exact trivial) (.inl rfl) (λb' u hb hu=>(Heap.get?_update_other s.heap (Obj.mapSeq f) (Ne.symm hb)).trans hu) ⟨_,q⟩ ?_;exact⟨hz,its',_,hv,q⟩
variable {s:Shared} in
theorem Inv.PL{t':Nat}(I:Inv X pins σ H s)(hv:Vals ys aq)(hz:ys.length<=sizeLine):
  Inv X pins σ (upd H s.heap.objs.size (.lst ys)) {s with heap:=s.heap.push {cls:=.type "list",data:=.seq aq.toArray},toks:=t'}:=
 I.laid (λ_ _ q=>get?_push_of_some _ q) (le_refl _) ⟨hz,aq,0,hv,get?_push_size _ rfl⟩
variable {s:Shared} in
theorem Inv.fresh(I:Inv X pins σ H s):H s.heap.objs.size=none:=I.bR.fresh (le_refl _)
variable {s:Shared} in
theorem Inv.Jy(I:Inv X pins σ H s)(hH:H l=some (.lst xs)):xs.length<=sizeLine/\∃(aq:List Value) (n:Nat),Vals xs aq/\xs.length=aq.length/\s.heap.get? l=some {cls:=.type "list",data:=.seq aq.toArray n}:=by
 obtain⟨z,aq,n,r,e⟩:=I.bR l _ hH;exact⟨z,aq,n,r,r.length,e⟩
theorem Jr(h:n<=sizeLine):Builtin.List.listTooLong n=false:=by
 unfold Builtin.List.listTooLong;exact decide_eq_false (by omega)
def MC:V->List V->Hp->VK->Prop:=λx vs H Q=>∃l xs y,x=.ref l/\vs=[y]/\H l=some (.lst xs)/\xs.length<sizeLine/\Q .bW (upd H l (.lst (xs++[y])))
theorem xu:Va X "list.append" MC:=by
 intro pins s σ H x vs v us Q I rx rv h;obtain⟨l,xs,y,rfl,rfl,hH,hz,q⟩:=h;cases rx;obtain⟨u,rfl,ru⟩:=rv.one;obtain⟨z,aq,n,r,hl,e⟩:=I.Jy hH;refine call_meets F.slot_list_append ⟨_,e,rfl⟩ F.entry_list_append (F.args_list_append_2 _ _) (PySem.list_append l aq.toArray n u (by rw[size_toArray];omega)) ⟨e,?_⟩;refine⟨.bW,_,I.PJ (its':=aq++[u]) hH e (by simp) (r.append (.cons ru .nil)) ?_,rfl,q⟩;rw[length_append,length_singleton];omega
def VR:R2:=λx y H Q=>∃l k xs,x=.ref l/\y=.int k/\H l=some (.lst xs)/\-(2^63)<=k/\k<2^63/\xs.length*k.toNat<=sizeLine/\
 ∀p,H p=none->Q (.ref p) (upd H p (.lst (List.replicate k.toNat xs).flatten))
theorem len_rep(xs:List α)(k:Nat):(List.replicate k xs).flatten.length=k*xs.length:=by
 induction k with
 |zero=>simp
 |succ k ih=>rw[replicate_succ,flatten_cons,length_append,ih,Nat.succ_mul,add_comm]
theorem Pf:dO X (binaryOp .Mult) VR:=by
 intro pins s σ H x y v u Q I rx ry h;obtain⟨l,k,xs,rfl,rfl,hH,h1,h2,hz,q⟩:=h;cases rx;obtain⟨t,rfl⟩:=ry;obtain⟨z,aq,n,r,hl,e⟩:=I.Jy hH;have hlen:aq.toArray.size*k.toNat<=sizeLine:=by rw[size_toArray,<- hl];exact hz
 have Af:¬aq.toArray.size*k.toNat>(2^63-1)/8:=by
  have:(sizeLine:Nat)<=(2^63-1)/8:=by decide
  omega
 have Wd:¬(!Builtin.List.listFitsIndex k)=true:=by
  rw[fitsIndex_both h1 h2];exact Bool.false_ne_true
 have SN:¬Builtin.List.listTooLong (aq.toArray.size*k.toNat)=true:=by
  rw[Jr hlen];exact Bool.false_ne_true
 have W9:foldl (λx1 x2=>x1++x2) #[] (List.replicate (if aq.toArray.isEmpty=true then 0 else k.toNat) aq.toArray)=(List.replicate k.toNat aq).flatten.toArray:=by
  have f0:∀m:Nat,foldl (λx1 x2=>x1++x2) #[] (List.replicate m aq.toArray)=(List.replicate m aq).flatten.toArray:=λm=>by
   have:=foldl_rep aq m [];rw[nil_append]at this;exact this
  rw[f0];cases aq with
  |nil=>simp
  |cons a r'=>rw[if_neg (by simp)]
 refine wpAny_binaryOp_repeat_ref (T:="list") (U:="int") (by decide) ⟨_,e,rfl⟩ (λs'=>typeIs_int s' k t) noFill_list_mul F.fills_int_mul F.slot_int_rmul repeat_list F.slot_int_index.lookup
  (call_meets F.slot_int_rmul (typeIs_int s k t) F.entry_int_rmul (F.args_int_rmul_2 _ _) (int___rmul___int_list k t l aq.toArray n)
   ⟨e,rfl,⟨_,e,rfl⟩,call_meets F.slot_list_mul ⟨_,e,rfl⟩ F.entry_list_mul (F.args_list_mul_2 _ _) (AutoListH.list___mul___list_int_3 l aq.toArray n k t Wd Af SN) ⟨e,?_⟩⟩)
 rw[W9];exact⟨.ref _,_,I.PL (t':=s.toks) (r.rep k.toNat) (by rw[len_rep,Nat.mul_comm];exact hz),rfl,q _ I.fresh⟩
end
end L2
namespace Vu
noncomputable section
open PySem PySem.W PySem.Calls PyProof.Rows
variable {h:Heap}
theorem uV{P:Params}:∀(ns:List Int) (vs:List Value),WellAll P h vs (ns.map WData.int)->IntsAre vs ns:=by
 intro ns;induction ns with
 |nil=>
  intro vs w;rw[map_nil]at w;cases w;exact .nil
 |cons n ns ih=>
  intro vs w;rw[map_cons]at w;cases w with
  |cons a b=>
   cases a;exact .cons _ _ (ih _ b)
variable {n:Nat}
theorem FJ{l:OpenLaw}(hn:l.most=some n){P:Params}{args:List WData}{vals:List Value}(Ef:l.row.toRowW.claim.pre args=true)(CB:WellAll P h vals args):
  ∃a vs ns,vals=[Value.ref a]/\args=[WData.list (ns.map WData.int)]/\h.get? a=some {cls:=.type "list",data:=.seq vs.toArray}/\IntsAre vs ns/\ns.length<=n:=by
 have Xi:WShape.hasAll [] args [.list .int]=true:=(pre_splitW Ef).1;have hc:l.pre.holds [] {args:=args}=true:=(pre_splitW Ef).2;obtain⟨d,r,rfl,h1,h2⟩:=hasAllW_cons Xi;obtain rfl:=hasAllW_nil h2;obtain⟨xs,rfl,h3⟩:=hasW_list h1;obtain⟨ns,rfl⟩:=items_int h3;have hlen:ns.length<=n:=by
  unfold OpenLaw.pre at hc;have h4:(WTm.not (.lt (.lit (.int (n:Int))) (.len (.arg 0)))).holds [] {args:=[.list (ns.map .int)]}=true:=by
   have h4:=(holds_andW hc).1;rw[hn]at h4;exact h4
  have h5:=condW_of h4 (w_not (w_lt w_lit (w_len_list (w_arg rfl))));rw[length_map]at h5;refine Nat.le_of_not_lt λq=>?_;have q':(n:Int)<((ns.length:Nat):Int):=by omega
  first
   |(rw[decide_eq_true q']at h5;exact absurd h5 (by decide))
   |(simp at h5;omega)
 cases CB with
 |cons w1 w2=>
  cases w2;cases w1 with
  |list ho nY=>exact⟨_,_,ns,rfl,rfl,ho,uV ns _ nY,hlen⟩
theorem Gg(l:OpenLaw)(args:List WData):l.row.toRowW.claim.post args (.bool true) args=true:=
 postW_of (r:=l.row.toRowW) (X:=(true==true))
  (show WShape.has [] (.bool true) .bool=true by first|rfl|decide|simp[WShape.has,WShape.arms,WShape.armsAll])
  (show(WTm.eq .res (.lit (.bool true))).value [] {args:=args,res:=some (.bool true),after:=args}=some (.bool (true==true))from w_eq_bool (w_res rfl) w_lit) rfl
variable {q:Program} {loose:List Str} {XP:(Str->Option Value)->Heap->Prop} {YP:World->Heap->Prop}
theorem Bw{l:OpenLaw}{d:DefRec}(hn:l.most=some n)(Hl:d.params.defaults=[])(call:∀(w:World) (aw cq:Shared) (mg mb:Str->Option Value) (fa:Addr) (o:Obj) (pm cd doc:Value) (a:Addr) (vs:List Value) (ns:List Int),
   Ground q loose [] XP w aw mg mb cq.heap->YP w cq.heap->
   cq.heap.get? fa=some o->o.data=.func (docDef d.name d.params d.body d.scope pm cd doc)->cq.heap.CodeRec cd d.name->mg d.name=some (.ref fa)->
   cq.heap.get? a=some {cls:=.type "list",data:=.seq vs.toArray}->IntsAre vs ns->ns.length<=n->cq.gens=#[]->
   codeAny (model l.prog w) callerA (.call (.ref fa) ⟨[.ref a],[]⟩) (λr s'=>r=.ok (.ret (.bool true))/\OldK cq.heap s'.heap/\s'.os=cq.os/\AllBare s'.gens) cq):
  WalkO q loose XP YP l.row.toRowW d [] (λf vs=>PySem.call f vs):=by
 intro w aw cq mg mb G Y fa o pm cd doc dV kV ho hd fG hD Hf hg args vals as Ef hlay hrd CB gF;obtain rfl:dV=.none:=Dflts.none hD Hl;obtain rfl:kV=.none:=Dflts.noKw hD;obtain⟨a,vs,ns,rfl,rfl,JH,hints,hlen⟩:=FJ hn Ef CB;refine enter_call (codeAny_mono (call w aw cq mg mb fa o pm cd doc a vs ns G Y ho (fd_plain hd) fG Hf JH hints hlen hg) λr s' hq=>?_);obtain⟨rfl,h2,h3,h4⟩:=hq;exact⟨.inl ⟨.bool true,.bool true,[],rfl,λ_=>rfl,.bool true,Gg l _,λ_=>⟨List.Pairwise.nil,λ_ hm=>(nomatch hm)⟩⟩,h2,h3,h4⟩
end
end Vu
namespace L2
noncomputable section
open PySem PySem.Spec PyProof.Rows
theorem wY:∀{vs:List Value} {ns:List Int},IntsAre vs ns->Vals (ns.map V.int) vs
 |_,_,.nil=>.nil
 |_,_,.cons n t h=>.cons ⟨t,rfl⟩ (wY h)
def Kl (H:Hp):Prop:=∀b,H b=none\/∃o xs,H b=some (.qa o (.lst xs))
variable {P:Program} {w:World} {mg:Str->Option Value} {k:Nat} {a:Addr} {fd:FuncData} {x:Str}
theorem JD{K:Frag}{mb:Str->Option Value}{CX:ya}{fa:Addr}{sp:Sp}{cq:Shared}{vs:List Value}{ns:List Int}(KX:K.In cq.heap)(Hb:cq.heap.Ns mainGlobals mg)(hb:cq.heap.Ns builtinsNs mb)(Lr:∀x:Str,x≠"__name__"->mb x=bootBuiltins x)(Wb:cq.heap.NoLimit)(hg:cq.gens=#[])(ha:cq.heap.get? a=some {cls:=.type "list",data:=.seq vs.toArray})(hi:IntsAre vs ns)(hl:ns.length<=sizeLine)(hr:cg k callerA)(F:∀base:Heap,K.In base->base.Ns mainGlobals mg->gn P w K mg base CX k fa fd [x] sp)(SV:∀(s:Shared) (u:Value),BindsTo s fd ⟨[u],[]⟩ [(x,u)])(lO:∀H:Hp,Kl H->fk K H a (ns.map V.int)->sp [.ref a] H (λv _=>v=.bl true) λ_ _ _=>False)(QN:∀H e s',CX [] H cq (λ_ _ _=>False) e s'->False):
  codeAny (model P w) callerA (.call (.ref fa) ⟨[.ref a],[]⟩) (λr s'=>r=.ok (.ret (.bool true))/\OldK cq.heap s'.heap/\s'.os=cq.os/\AllBare s'.gens) cq:=by
 have rv:=wY hi;have VX:=hi.length

 have core:∀H:Hp,Kl H->fk K H a (ns.map V.int)->i7 P w H cq.heap->(∀b,H b≠none->b=a)->(H a≠none->K.lookup a=none)->
   codeAny (model P w) callerA (.call (.ref fa) ⟨[.ref a],[]⟩) (λr s'=>r=.ok (.ret (.bool true))/\OldK cq.heap s'.heap/\s'.os=cq.os/\AllBare s'.gens) cq:=by
  intro H hO hS bR hA hK;have Dj:∀{b:Addr} {o:Obj},cq.heap.get? b=some o->H b=none->(pI cq.heap H).get? b=some o:=λe n=>JJ e n;have GB:∀{b:Addr} {o:Obj} {es:Array DictEntry} {ep:Nat},cq.heap.get? b=some o->o.data=.dict es ep->H b=none:=fun{b o es ep} e d=>by
   cases q:H b with
   |none=>rfl
   |some u=>
    have e':b=a:=hA b (by rw[q];simp);subst e';rw[ha]at e;cases e;have d':Data.seq vs.toArray _=Data.dict es ep:=d;cases d'
  have KZ:∀{b:Addr} {m:Str->Option Value},cq.heap.Ns b m->(pI cq.heap H).Ns b m:=fun{b m} ⟨o,es,ep,e,d,r⟩=>⟨o,es,ep,Dj e (GB e d),d,r⟩;have Uu:K.In (pI cq.heap H):=λb o e=>Dj (KX b o e) (by
   cases q:H b with
   |none=>rfl
   |some u=>
    have e':b=a:=hA b (by rw[q];simp);subst e';rw[hK (by rw[q];simp)]at e;cases e)
  have hM:Mod K mg (pI cq.heap H):=⟨Uu,KZ Hb,⟨mb,KZ hb,Lr⟩,let ⟨mc,h1,h2⟩:=Wb;⟨mc,KZ h1,h2⟩⟩;have e0:F1 P w K mg (pI cq.heap H) callerA [] cq H:=⟨rfl,hM,λb o e=>N5 e,Nat.le_of_eq (Hi _ _),trivial,λb hb=>absurd (show b∈([]:List Addr)from hb) (by simp),bR,.of_eq hg⟩;refine codeAny_mono ((F _ Uu (KZ Hb)).run callerA [] cq H ⟨[.ref a],[]⟩ [.ref a] [.ref a] _ _ hr e0 (SV cq (.ref a)) (.cons rfl .nil) (lO H hO hS)) λr s' h=>?_;cases r with
  |error e=>exact(QN H e s' h).elim
  |ok fl=>
   cases fl with
   |next=>exact False.elim h
   |brk=>exact False.elim h
   |cont=>exact False.elim h
   |ret u=>
    obtain⟨v,H',os,bare,un,W6,r',q⟩:=h;have q':v=.bl true:=q;subst q';obtain rfl:u=Value.bool true:=r';refine⟨rfl,OldK.of_keep λb o e=>?_,os,bare⟩;cases q:H b with
    |none=>exact un.keep b o e q (by intro z;exact absurd (show b∈([]:List Addr)from z) (by simp)) (by simp)
    |some u=>
     rcases hO b with z|⟨ob,xs,z⟩
     ·rw[q]at z;cases z
     ·have z2:=un.f7 b ob _ z;obtain⟨e1,_⟩:=bR b _ z;obtain⟨e2,_⟩:=W6 b _ z2;rw[e]at e1;cases e1;exact e2
 cases hk:K.lookup a with
 |some o=>

  have e:=KX a o hk;rw[ha]at e;cases e;refine core (λ_=>none) (λ_=>.inl rfl) (.inr ⟨_,vs.toArray,_,hk,rfl,rfl,rfl,by rw[size_toArray,VX];exact hl,by simpa using rv⟩) (λb u z=>by have z':(none:Option HO)=some u:=z;cases z') (λb z=>absurd rfl z) λz=>absurd rfl z
 |none=>
  refine core (λb=>if b=a then some (.qa {cls:=.type "list",data:=.seq vs.toArray} (.lst (ns.map V.int)))else none) (λb=>?_) (.inl (.inr ⟨{cls:=.type "list",data:=.seq vs.toArray},if_pos rfl⟩)) (λb u z=>?_) (λb z=>?_) λ_=>hk
  ·by_cases hb:b=a
   ·exact .inr ⟨_,_,if_pos hb⟩
   ·exact .inl (if_neg hb)
  ·by_cases hb:b=a
   ·have z':=(if_pos hb).symm.trans z;cases z';subst hb;exact⟨ha,by rw[length_map];exact hl,vs,_,rv,ha⟩
   ·have z':=(if_neg hb).symm.trans z;cases z'
  ·by_cases hb:b=a
   ·exact hb
   ·exact absurd (if_neg hb) z
open PySem PySem.Spec PyProof.Rows
variable {n:Nat}
theorem Me{l:PySem.W.OpenLaw}{q:Program}{loose:List Str}{XP:(Str->Option Value)->Heap->Prop}{YP:World->Heap->Prop}{d:DefRec}{K:Params->Frag}{CX:World->ya}{sp:World->Sp}(hn:l.most=some n)(Ue:n<=sizeLine)(Hl:d.params.defaults=[])(hr:cg k callerA)(hY:∀(w:World) (h:Heap),YP w h->(K w.params).In h)(F:∀(w:World) (mg:Str->Option Value) (fa:Addr) (h:Heap),(K w.params).In h->h.Ns mainGlobals mg->mg d.name=some (.ref fa)->
   ∃fd:FuncData,(∀(s:Shared) (u:Value),BindsTo s fd ⟨[u],[]⟩ [(x,u)])/\
    ∀base:Heap,(K w.params).In base->base.Ns mainGlobals mg->gn l.prog w (K w.params) mg base (CX w) k fa fd [x] (sp w))(lO:∀(w:World) (H:Hp) (a:Addr) (ns:List Int),ns.length<=n->Kl H->fk (K w.params) H a (ns.map V.int)->sp w [.ref a] H (λv _=>v=.bl true) λ_ _ _=>False)(QN:∀(w:World) (H:Hp) (s:Shared) (e:Value) (s':Shared),CX w [] H s (λ_ _ _=>False) e s'->False):
  PySem.W.WalkO q loose XP YP l.row.toRowW d [] (λf vs=>PySem.call f vs):=by
 refine Vu.Bw hn Hl λw aw cq mg mb fa o pm cd doc a vs ns G Y ho hd fG Hf JH hints hlen hg=>?_;have KX:=hY w _ Y;obtain⟨fd,hb,hF⟩:=F w mg fa _ KX G.T.g Hf;exact JD KX G.T.g G.T.b G.T.builtins G.T.nolimit hg JH hints (le_trans hlen Ue) hr hF hb (λH hO hS=>lO w H a ns hlen hO hS) λH e s'=>QN w H cq e s'
open PySem PySem.Spec PyProof.Rows
def jN (s:Stmt):Arguments:=match s with
 | .FunctionDef _ a _ _ _ _ _ _ _ _=>a
 |_=>{posonlyargs:=[],args:=[],vararg:=none,kwonlyargs:=[],kw_defaults:=[],kwarg:=none,defaults:=[]}
def df (s:Stmt):List Stmt:=match s with
 | .FunctionDef _ _ b _ _ _ _ _ _ _=>b
 |_=>[]
def aW (s:Stmt):Scope:=match s with
 | .FunctionDef _ _ _ _ _ _ sc _ _ _=>sc
 |_=>{kind:=.function,names:=[],isGenerator:=false,isCoroutine:=false}
abbrev gO:ya:=λ_ _ _ _ _ _=>False
abbrev E0:XK:=λ_ _ _=>False
variable {X:Cx}
theorem yu:Passes gO X E0:=λ_ _ _ _ _ _ _ h=>h.elim
structure nI (K:Frag) (x qual:Str) (st:Stmt) (f:Addr) (fd:FuncData):Prop where
 ex:∃(oc:Value) (od:Option Addr) (kV doc pm:Value) (an:Option Addr) (bC ct:Value) (sU:Array (Option Value)),
  fd=fnOf x qual (jN st) (df st) (aW st) .none kV doc pm an bC ct/\K.lookup f=some ⟨oc,od,.func fd,sU⟩/\codeIn K bC qual=true
 kp:keepIn K (.ref f)=true
variable {K:Frag} {base:Heap} {qual:Str} {st:Stmt} {f:Addr} {N ps:List Str}
theorem nI.ok{sp:Sp}(F:nI K x qual st f fd)(S:fV N ps (aW st))(len:∀vs H Q E,sp vs H Q E->vs.length=ps.length)(hbody:∀(bC:Value) (A:Around) (outer:List Env) (s:Shared) (H:Hp) (vs:List V) (Q:VK) (E:XK),cg k (A.deeper (envOfC qual (aW st) s.heap.objs.size f bC))->sp vs H Q E->
   ∃t,lF (gY gO P w K mg base N qual (aW st) f bC A outer s H E).ly (df st) t/\t {nx:=λ_ H'=>Q .bW H',rt:=Q} (start N vs) H):gn P w K mg base gO (k+1) f fd ps sp:=by
 obtain⟨oc,od,kV,doc,pm,an,bC,ct,sU,rfl,lk,fG⟩:=F.ex;refine T1 lk fG S len λA outer s H vs Q E hr lO=>?_;obtain⟨t,h,q⟩:=hbody bC A outer s H vs Q E hr lO;exact⟨t,h.ly,q⟩
theorem nI.binds(F:nI K x qual st f fd)(h:∀(kV doc pm:Value) (an:Option Addr) (bC ct:Value) (us:List Value),us.length=ps.length->bindArgs (fnOf x qual (jN st) (df st) (aW st) .none kV doc pm an bC ct) ⟨us,[]⟩=pure (ps.zip us)):Binds K fd ps []:=by
 obtain⟨oc,od,kV,doc,pm,an,bC,ct,sU,rfl,lk,fG⟩:=F.ex;exact .all (h kV doc pm an bC ct)
variable {oc pm ct:Value} {od an:Option Addr}
theorem As{sU:Array (Option Value)}{kV doc bC:Value}(l:K.lookup f=some ⟨oc,od,.func (fnOf x qual (jN st) (df st) (aW st) .none kV doc pm an bC ct),sU⟩)(c:codeIn K bC qual=true)(k:keepIn K (.ref f)=true):nI K x qual st f (fnOf x qual (jN st) (df st) (aW st) .none kV doc pm an bC ct):=⟨⟨oc,od,kV,doc,pm,an,bC,ct,sU,rfl,l,c⟩,k⟩
theorem jA(h:n<=1000):n<sizeLine:=lt_of_le_of_lt h (by decide)
def aQ (H H':Hp):Prop:=∀b o,H b=some o->H' b=some o
theorem aQ.refl(H:Hp):aQ H H:=λ_ _ h=>h
variable {H H1 H2:Hp}
theorem aQ.trans(a:aQ H H1)(b:aQ H1 H2):aQ H H2:=λc o h=>b c o (a c o h)
open PySem PySem.Spec PyProof.Rows
variable {σ:St} {pins:List (Addr×Obj)}
variable {s:Shared} in
theorem Inv.big(I:Inv X pins σ H s):sysModules<s.heap.objs.size:=by
 have h:mainGlobals<s.heap.objs.size:=(I.mod.glob.keeps I.bk).lt;exact lt_trans (by decide) h
open PySem PySem.Spec PyProof.Rows
variable {prog:Program} {A:Around} {elt iter:Expr} {ifs:List Expr} {scope:Scope} {pos:Pos} {env:Env}
theorem AV{R:Result->Shared->Prop}{s:Shared}{target:Expr}{it acc:Value}(I:Nat->Shared->Prop)(turn:∀n s,I n s->wpAny (model prog w) A (pyNext it) (λr cq=>match r with
   |none=>R (.ok .next) cq
   |some v=>wpAny (model prog w) A (letOwnedTupleGo target it v) (λ_ KH=>wpAny (model prog w) A (assign target env v) (λ_ cL=>
     wpAny (model prog w) A (forIn ifs true λc r=>if r=true then do let ok <- isTrue c env (eval c env);pure (ForInStep.yield ok)else pure (ForInStep.yield r)) (λok oU=>
      if ok=true then wpAny (model prog w) A (eval elt env) (λx Dz=>
       wpAny (model prog w) A (call (.builtin "list.append") [acc,x]) (λ_ Ou=>∃m,m<n/\I m Ou) (notedBy (model prog w) A env λe s'=>R (.error e) s') Dz) (notedBy (model prog w) A env λe s'=>R (.error e) s') oU
      else ∃m,m<n/\I m oU) (notedBy (model prog w) A env λe s'=>R (.error e) s') cL) (notedBy (model prog w) A env λe s'=>R (.error e) s') KH) (notedBy (model prog w) A env λe s'=>R (.error e) s') cq) (notedBy (model prog w) A env λe s'=>R (.error e) s') s)(n:Nat)(h:I n s):
  codeAny (model prog w) A (.compLoop (.ListComp elt [⟨target,iter,ifs,0⟩] scope pos) 0 it acc env) R s:=by
 refine codeAny_loop rfl I (λn s hI=>?_) n h;show wpAny _ A ((compTurn (.ListComp elt [⟨target,iter,ifs,0⟩] scope pos) 0 it acc env).onRaise (λx=>do noteFrame x env;theTreesLotGoes x)) _ _ s
 refine wpAny_noted ?_;rw[compTurn_list];refine wpAny_bind (wpAny_standAt (wpAny_bind (wpAny_mono (turn n s hI) (λr cq k7=>?_) λ_ _ h'=>h')));cases r with
 |none=>exact wpAny_pure k7
 |some v=>
  refine wpAny_bind (wpAny_mono k7 (λ_ KH SK=>?_) λ_ _ h'=>h');refine wpAny_bind (wpAny_mono SK (λ_ cL zY=>wpAny_bind (wpAny_mono zY (λok oU Q4=>?_) λ_ _ h'=>h')) λ_ _ h'=>h');cases ok with
  |false=>exact wpAny_pure ⟨rfl,Q4⟩
  |true=>
   exact wpAny_bind (wpAny_bind (wpAny_mono Q4 (λx Dz W2=>wpAny_bind (wpAny_mono W2 (λ_ Ou W0=>wpAny_pure (wpAny_pure ⟨rfl,W0⟩)) λ_ _ h'=>h')) λ_ _ h'=>h'))
abbrev fP (X:Cx) (scope:Scope) (cl:List (Str×Addr)) (N':List Str) (C:Addr) (aw:Shared) (af:Hp) (ex:List Addr):Cx:=
 {prog:=X.prog,w:=X.w,K:=X.K,mg:=X.mg,base:=X.base,A:=X.A,N:=N',aw:=aw,af:=af,env:=compEnvC scope cl C X.env,outer:=X.stack,stack:=X.stack,ex:=ex,fn:=λ_=>false,calm:=X.calm,pn:=[],xe:=λ_ _=>False}
def rG (X:Cx) (ifs:List Expr) (t:TT):Prop:=
 ∀(pins:List (Addr×Obj)) (s:Shared) (σ:St) (H:Hp) (Q:Bool->Hp->Prop),Inv X pins σ H s->t σ H Q->
  wpAny (model X.prog X.w) X.A (forIn ifs true λc r=>if r=true then do let ok <- isTrue c X.env (eval c X.env);pure (ForInStep.yield ok)else pure (ForInStep.yield r)) (TP X pins σ Q) X.xe s
def Vy:TT:=λ_ H Q=>Q true H
theorem MN:rG X [] Vy:=λ_ _ _ H _ I h=>wpAny_tests_nil ⟨H,I,h⟩
theorem MM{c:Expr}{t:TT}(h:PT X c t):rG X [c] t:=λpins s σ H Q I hw=>wpAny_tests_one (h pins s σ H Q I hw)
def cO (aD:List (Option Nat)) (σ:St):St:=aD.map λo=>o.bind λj=>(σ[j]?).join
structure nK (X:Cx) (scope:Scope) (cl:List (Str×Addr)) (N':List Str) (aD:List (Option Nat)):Prop where
 wC:closureFor scope X.env=pure cl
 cells:∀y∈scope.names,y.2≠.cell
 kind:scope.kind=.function
 names:∀y∈scope.names,y.2=.local->scope.names.lookup y.1=some .local
 nd:N'.Nodup
 len:aD.length=N'.length
 sub:∀x c,cl.lookup x=some c->X.env.cells.lookup x=some c
 has:∀x,((relabel scope X.env).names.lookup x=some .cell\/(relabel scope X.env).names.lookup x=some .free)->∃c,cl.lookup x=some c
 aD:∀(i:Nat) (x:Str) (j:Nat),N'[i]?=some x->aD[i]?=some (some j)->X.N[j]?=some x/\kB X.env.scope x/\((relabel scope X.env).names.lookup x=some .cell\/(relabel scope X.env).names.lookup x=some .free)/\X.env.scope.names.lookup x≠some .local
def dZ:St->St->Prop
 |[],[]=>True
 |none::a,_::b=>dZ a b
 |some v::a,u::b=>u=some v/\dZ a b
 |_,_=>False
theorem dZ.len:∀{a b:St},dZ a b->a.length=b.length
 |[],[],_=>rfl
 |none::a,_::b,h=>congrArg (· + 1) (dZ.len (a:=a) (b:=b) h)
 |some v::a,u::b,h=>congrArg (· + 1) (dZ.len (a:=a) (b:=b) h.2)
 |[],_::_,h=>h.elim
 |none::_,[],h=>h.elim
 |some _::_,[],h=>h.elim
theorem dZ.get:∀{a b:St},dZ a b->∀(i:Nat) (v:V),a[i]?=some (some v)->b[i]?=some (some v)
 |[],[],_,i,v,e=>by simp at e
 |none::a,_::b,h,0,v,e=>by simp at e
 |none::a,_::b,h,i+1,v,e=>by
  rw[getElem?_cons_succ]at e ⊢;exact dZ.get (a:=a) (b:=b) h i v e
 |some x::a,u::b,h,0,v,e=>by
  rw[getElem?_cons_zero]at e ⊢;rw[h.1];exact e
 |some x::a,u::b,h,i+1,v,e=>by
  rw[getElem?_cons_succ]at e ⊢;exact dZ.get (a:=a) (b:=b) h.2 i v e
 |[],_::_,h,_,_,_=>h.elim
 |none::_,[],h,_,_,_=>h.elim
 |some _::_,[],h,_,_,_=>h.elim
def ni (aD:List (Option Nat)) (wi:TI) (g:TG) (jh:TT) (te:TE):TE:=λσ H Q=>wi σ H λJ H1=>∃W:Nat->Nat->List V->Hp->Prop,(∃m,W 0 m [] H1)/\∀i m ys H,W i m ys H->ys.length<sizeLine/\
 ((J.stop i H/\∀D,H D=none->Q (.ref D) (upd H D (.lst ys)))\/
  (J.go i H/\∀x H',J.sQ i H x H'->g x (cO aD σ) H' λcP H2=>dZ (cO aD σ) cP/\jh cP H2 λb H3=>if b=true then te cP H3 λv H4=>∃m',m'<m/\W (i+1) m' (ys++[v]) H4 else ∃m',m'<m/\W (i+1) m' ys H3))
def mM (own:Option Str) (C:Addr) (cl:List (Str×Addr)):List (Str×Addr):=match own with
 |none=>cl
 |some kx=>(kx,C+1)::cl
def Jj:Option Str->Str->Bool
 |none,_=>false
 |some kx,y=>y==kx
def vt:Option Str->Heap->Heap
 |none,h=>h
 |some _,h=>h.push {cls:=.type "cell",data:=.cell none}
theorem HZ(own:Option Str){h:Heap}{b:Addr}{o:Obj}(e:h.get? b=some o):(vt own h).get? b=some o:=by
 cases own with
 |none=>exact e
 |some _=>exact get?_push_of_some _ e
variable {own:Option Str} {C:Addr} {cl:List (Str×Addr)} {y:Str}
theorem Pc{c:Addr}(e:(mM own C cl).lookup y=some c):(own=some y/\c=C+1)\/cl.lookup y=some c:=by
 cases own with
 |none=>exact .inr e
 |some kx=>
  have e:((kx,C+1)::cl).lookup y=some c:=e;rw[lookup_cons]at e;by_cases h:y=kx
  ·subst h;rw[beq_self_eq_true]at e;exact .inl ⟨rfl,(Option.some.inj e).symm⟩
  ·rw[show(y==kx)=false by simpa using h]at e;exact .inr e
theorem MZ{c:Addr}(h:own≠some y)(e:cl.lookup y=some c):(mM own C cl).lookup y=some c:=by
 cases own with
 |none=>exact e
 |some kx=>
  show((kx,C+1)::cl).lookup y=some c;rw[lookup_cons,show(y==kx)=false by simpa using λz=>h (by rw[z])];exact e
theorem Gp(h:own=some y):(mM own C cl).lookup y=some (C+1):=by
 rw[h];show((y,C+1)::cl).lookup y=_;rw[lookup_cons,beq_self_eq_true]
theorem Pd(h:Jj own y=true):own=some y:=by
 cases own with
 |none=>cases h
 |some kx=>rw[show y=kx by simpa [Jj]using h]
abbrev hV (X:Cx) (scope:Scope) (own:Option Str) (cl:List (Str×Addr)) (N':List Str) (C:Addr) (aw:Shared) (af:Hp) (ex:List Addr):Cx:=
 {prog:=X.prog,w:=X.w,K:=X.K,mg:=X.mg,base:=X.base,A:=X.A,N:=N',aw:=aw,af:=af,env:=compEnvC scope (mM own C cl) C X.env,outer:=X.stack,stack:=X.stack,ex:=ex,fn:=Jj own,calm:=X.calm,pn:=[],xe:=λ_ _=>False}
structure Bl (X:Cx) (scope:Scope) (own:Option Str) (cl:List (Str×Addr)) (N':List Str) (aD:List (Option Nat)):Prop where
 wC:closureFor scope X.env=pure cl
 cf:∀n,cellsFrom (n+1) scope.names cl=mM own n cl
 pc:∀h,pushCells h scope.names=vt own h
 kind:scope.kind=.function
 names:∀y∈scope.names,y.2=.local->scope.names.lookup y.1=some .local
 len:aD.length=N'.length
 X2:∀kx,own=some kx->cl.lookup kx=none
 sub:∀x c,cl.lookup x=some c->X.env.cells.lookup x=some c
 has:∀x,((relabel scope X.env).names.lookup x=some .cell\/(relabel scope X.env).names.lookup x=some .free)->own=some x\/∃c,cl.lookup x=some c
 aD:∀(i:Nat) (x:Str) (j:Nat),N'[i]?=some x->aD[i]?=some (some j)->X.N[j]?=some x/\kB X.env.scope x/\((relabel scope X.env).names.lookup x=some .cell\/(relabel scope X.env).names.lookup x=some .free)/\X.env.scope.names.lookup x≠some .local/\own≠some x
theorem N6{M:Model}{E:Value->Shared->Prop}{s:Shared}{Q:Env->Shared->Prop}(cf:∀n,cellsFrom (n+1) scope.names cl=mM own n cl)(pc:∀h,pushCells h scope.names=vt own h)(h:∀uf:Env,{uf with scope:=relabel scope env}=compEnvC scope (mM own s.heap.objs.size cl) s.heap.objs.size env->uf.locals=s.heap.objs.size->Q uf {s with heap:=vt own (s.heap.push {cls:=.type "dict",data:=.dict #[]})}):
  wpAny M A (newFunctionEnv scope env.globals cl [] env.qual none .none (some env)) Q E s:=by
 simp only[newFunctionEnv,Option.isSome_some,if_true];refine wpAny_bind (wpAny_alloc ?_);refine wpAny_bind (wpAny_layCells _ (λname kind cells=>by cases XA:kind==NameKind.cell<;>simp[XA]) _ _ _ _ ?_);rw[pc,show({s with heap:=s.heap.push {cls:=.type "dict",data:=.dict #[]}}:Shared).heap.objs.size=s.heap.objs.size+1 from size_push ..,cf,forIn_nil];exact wpAny_bind (wpAny_pure (wpAny_pure (h _ rfl rfl)))
variable {tg:Expr} {N':List Str} {jh:TT} {te:TE} {it:Addr} {J:It}
theorem vp{aD:List (Option Nat)}{g:TG}{σ:St}{cL:Shared}{fp:List Addr}{tn:Nat->Heap->Prop}{Q:VK}{W:Nat->Nat->List V->Hp->Prop}{m0:Nat}{RR:Value->Addr->Result->Shared->Prop}{E:Value->Shared->Prop}(hc:X.calm=true)(B:Bl X scope own cl N' aD)(hg:∀C aw af ex,PG (hV X scope own cl N' C aw af ex) tg g)(ht:∀C aw af ex,rG (hV X scope own cl N' C aw af ex) ifs jh)(he:∀C aw af ex,PE (hV X scope own cl N' C aw af ex) elt te)(I2:Inv X pins σ H2 cL)(T:Turn X.prog X.w X.K tg J fp it tn)(qp:tn 0 cL.heap)(f2:∀b∈fp,pQ X pins H2 b)(w0:W 0 m0 [] H2)(turn:∀i m ys H,W i m ys H->ys.length<sizeLine/\((J.stop i H/\∀D,H D=none->Q (.ref D) (upd H D (.lst ys)))\/(J.go i H/\∀x H',J.sQ i H x H'->g x (cO aD σ) H' λcP H2=>dZ (cO aD σ) cP/\jh cP H2 λb H3=>if b=true then te cP H3 λv H4=>∃m',m'<m/\W (i+1) m' (ys++[v]) H4 else ∃m',m'<m/\W (i+1) m' ys H3)))(fin:∀(D C:Addr) (s4:Shared) (H':Hp) (ys:List V) (aq:List Value) (k:Nat),cL.heap.objs.size=D->D<=C->D≠C->Inv (hV X scope own cl N' C cL H2 fp) [(D,{cls:=.type "list",data:=.seq aq.toArray k})] (cO aD σ) H' s4->H' D=none->Vals ys aq->ys.length<sizeLine->(∀D,H' D=none->Q (.ref D) (upd H' D (.lst ys)))->RR (.ref D) C (.ok .next) s4):
  wpAny (model X.prog X.w) X.A (newList []) (λacc oU=>wpAny (model X.prog X.w) X.A (newFunctionEnv scope X.env.globals cl [] X.env.qual none .none (some X.env)) (λuf Dz=>codeAny (model X.prog X.w) X.A (.compStart (.ListComp elt [⟨tg,iter,ifs,0⟩] scope pos) 0 (.ref it) acc {uf with scope:=relabel scope X.env}) (RR acc uf.locals) Dz) E oU) E cL:=by
 refine wpAny_newObj_type (N6 B.cf B.pc λuf XI q8=>?_);rw[XI,q8];dsimp only;generalize QD:cL.heap.push {cls:=.type "list",dict:=none,data:=.seq ([]:List Value).toArray}=HH;have hC:HH.objs.size=cL.heap.objs.size+1:=by rw[<- QD,size_push]
 have Yn:cL.heap.objs.size≠HH.objs.size:=by rw[hC];exact ne_of_lt (Nat.lt_succ_self _)
 generalize Ul:vt own (HH.push {cls:=.type "dict",data:=.dict #[]})=k7;have Jp:∀b o,(HH.push {cls:=.type "dict",data:=.dict #[]}).get? b=some o->k7.get? b=some o:=λb o e=>by rw[<- Ul];exact HZ own e
 have old:∀b o,cL.heap.get? b=some o->k7.get? b=some o:=λb o e=>Jp b o (get?_push_of_some _ (by rw[<- QD];exact get?_push_of_some _ e));have Ek:k7.get? cL.heap.objs.size=some {cls:=.type "list",data:=.seq ([]:List Value).toArray}:=Jp _ _ (get?_push_of_some _ (by rw[<- QD];exact get?_push_size _ rfl));have Ql:k7.Ns HH.objs.size (λ_=>none):=(Heap.Ns.new HH (.type "dict")).keeps Jp;have yy:∀y,own=some y->k7.get? (HH.objs.size+1)=some {cls:=.type "cell",data:=.cell none}:=λy hy=>by
  rw[<- Ul,hy,show HH.objs.size+1=(HH.push {cls:=.type "dict",data:=.dict #[]}).objs.size from(size_push ..).symm];exact get?_push_size _ rfl
 have lB:cL.heap.objs.size<=HH.objs.size:=by rw[hC];exact le_succ _
 generalize hD:cL.heap.objs.size=D at *;generalize hCC:HH.objs.size=C at *

 have LC:∀b∈fp,b<D:=λb hb=>by
  obtain⟨o,e,_⟩:=T.obj _ _ qp b hb;rw[<- hD];exact lt_size e
 have Ey:∀x c,cl.lookup x=some c->c<D:=λx c e=>by
  obtain⟨v,q⟩:=I2.cell x c (B.sub x c e);rw[<- hD];exact q.lt
 have lk:∀y c,(mM own C cl).lookup y=some c->(own=some y/\c=C+1)\/cl.lookup y=some c:=λy c e=>Pc e;have TV:∀y c,own≠some y->cl.lookup y=some c->(mM own C cl).lookup y=some c:=λy c h e=>MZ h e;have T8:∀y c,(mM own C cl).lookup y=some c->c≠D:=λy c e=>by
  rcases lk y c e with⟨_,z⟩|z
  ·rw[z];exact Nat.ne_of_gt (Nat.lt_succ_of_le lB)
  ·exact ne_of_lt (Ey y c z)
 have Yu:∀b∈mS X.stack,b∈X.env.locals::X.fs:=λb hb=>I2.yQ b hb;have ok:(hV X scope own cl N' C cL H2 fp).Ok:=by
  refine⟨I2.mod,B.kind,I2.ok.glob,I2.ok.blt,?_,?_,?_,?_,I2.ok.hd,I2.ok.frames,.inl rfl,λb hb=>⟨?_,λx c e z=>?_⟩,I2.bs,le_trans I2.ok.B1 I2.sz,λb o e hb=>?_,λb hb hf=>?_,I2.stack,I2.BV⟩
  ·show cL.heap.objs.size<=C;rw[hD];exact lB
  ·intro x y c h1 h2;rcases lk x c h1 with⟨a1,b1⟩|z1<;>rcases lk y c h2 with⟨a2,b2⟩|z2
   ·rw[a1]at a2;exact Option.some.inj a2
   ·have:=Ey y c z2;exact absurd (lt_of_lt_of_le this lB) (by rw[b1];exact Nat.not_lt.mpr (le_succ _))
   ·have:=Ey x c z1;exact absurd (lt_of_lt_of_le this lB) (by rw[b2];exact Nat.not_lt.mpr (le_succ _))
   ·exact I2.ok.inj x y c (B.sub x c z1) (B.sub y c z2)
  ·intro y hy;rcases B.has y hy with h|⟨c,e⟩
   ·exact⟨C+1,Gp h⟩
   ·by_cases h:own=some y
    ·exact⟨C+1,Gp h⟩
    ·exact⟨c,TV y c h e⟩
  ·intro y c hf e;rcases lk y c e with⟨_,z⟩|z
   ·rw[z,hD];exact Nat.le_succ_of_le lB
   ·rw[B.X2 y (Pd hf)]at z;cases z
  ·exact ne_of_lt (lt_of_lt_of_le (LC b hb) lB)
  ·rcases lk x c e with⟨_,q⟩|q
   ·rw[q]at z;exact ne_of_lt (lt_of_lt_of_le (LC b hb) (Nat.le_succ_of_le lB)) z.symm
   ·exact(f2 b hb).2.2.2.2.1 x c (B.sub x c q) z
  ·have h1:=f2 b hb;rcases h1.2.2.2.1 with z|z
   ·exact I2.ok.zJ b o e z
   ·have h2:=(I2.ok.bs b o e).1;exact absurd (lt_of_lt_of_le (lt_size h2) z) (lt_irrefl _)
  ·rcases mem_cons.mp (Yu b hf)with z|z
   ·exact(f2 b hb).2.1 z
   ·exact(f2 b hb).2.2.1 z
 have Au:∀a,D<=a->H2 a=none:=λa ha=>I2.bR.fresh (by rw[hD];exact ha);have I4:Inv (hV X scope own cl N' C cL H2 fp) [] (cO aD σ) H2 {cL with heap:=k7}:=by
  refine⟨ok,rfl,I2.bare,Un.kept old,⟨_,Ql,λi x v e1 e2 e3=>?_⟩,λx c e=>?_,Au C lB,λx c e=>?_,λp hp=>absurd (show p∈([]:List (Addr×Obj))from hp) (by simp),I2.bR.kept old,?_⟩
  ·have kA:N'[i]?=some x:=e1;unfold cO at e2;rw[getElem?_map]at e2;cases Af:aD[i]? with
   |none=>rw[Af]at e2;cases e2
   |some o=>
    rw[Af]at e2;cases o with
    |none=>cases e2
    |some j=>
     obtain⟨hN,hv,hk,Qn,Ub⟩:=B.aD i x j kA Af;have e4:σ[j]?=some (some v):=by
      have e5:some ((σ[j]?).join)=some (some v):=e2;cases hq:σ[j]? with
      |none=>rw[hq]at e5;cases e5
      |some q=>rw[hq]at e5;exact e5
     obtain⟨m,hn,hl⟩:=I2.loc;obtain⟨u,r,l⟩:=hl j x v hN e4 hv;refine⟨u,r,.inr ⟨hk,?_⟩⟩;rcases l with⟨k,_⟩|⟨k,c,q8,o,ho,hd⟩
     ·exact absurd k Qn
     ·obtain⟨c',jk⟩:=(B.has x hk).resolve_left Ub;have e6:=B.sub x c' jk;rw[q8]at e6;cases e6;exact⟨c,TV x c Ub jk,o,old c o ho,hd⟩
  ·rcases lk x c e with⟨q,z⟩|z
   ·rw[z];exact⟨none,_,yy x q,rfl⟩
   ·obtain⟨v,o,ho,hd⟩:=I2.cell x c (B.sub x c z);exact⟨v,o,old c o ho,hd⟩
  ·rcases lk x c e with⟨_,z⟩|z
   ·rw[z];exact Au _ (Nat.le_succ_of_le lB)
   ·exact I2.kb x c (B.sub x c z)
  ·show(cO aD σ).length=N'.length;unfold cO;rw[length_map];exact B.len
 have tN:D≠C:=Yn;have YO:D∉mS X.stack:=λhb=>by
  obtain⟨_,o,ho,_⟩:=I2.stack.mem hb;have:=lt_size ho;rw[hD]at this;exact absurd this (lt_irrefl _)
 have tv:∀{P:List (Addr×Obj)} {H':Hp},(∀p∈P,p.1=D)->(∀b∈fp,H' b=none)->∀b∈fp,pQ (hV X scope own cl N' C cL H2 fp) P H' b:=λhP hn b hb=>
  ⟨hn b hb,(ok.LI b hb).1,ok.AH b hb,.inl hb,(ok.LI b hb).2,λp hp z=>by
   have i4:p∈_:=hp;rw[hP p (by simpa using i4)]at z;exact Nat.ne_of_gt (LC b hb) z⟩
 have loop:∀oU:Shared,oU={cL with heap:=k7}->
   codeAny (model X.prog X.w) X.A (.compLoop (.ListComp elt [⟨tg,iter,ifs,0⟩] scope pos) 0 (.ref it) (.ref D) (compEnvC scope (mM own C cl) C X.env)) (RR (.ref D) C) oU:=by
  rintro oU rfl;refine AV (λn s'=>∃i ys aq H' k,Inv (hV X scope own cl N' C cL H2 fp) [] (cO aD σ) H' s'/\tn i s'.heap/\(∀b∈fp,H' b=none)/\H' D=none/\s'.heap.get? D=some {cls:=.type "list",data:=.seq (aq:List Value).toArray k}/\Vals ys aq/\W i n ys H') ?_ m0
   ⟨0,[],[],H2,0,I4,T.keep _ _ _ qp λb _ o e=>old b o e,λb hb=>(f2 b hb).1,Au D (le_refl _),Ek,.nil,w0⟩
  rintro n s' ⟨i,ys,aq,H',k,Ia,Tp,UD,lR,Yl,rv,wa⟩;obtain⟨hsz,tu⟩:=turn i n ys H' wa;have Ib:Inv (hV X scope own cl N' C cL H2 fp) [(D,{cls:=.type "list",data:=.seq aq.toArray k})] (cO aD σ) H' s':=Ia.oy λp hp=>by
   have i4:p=(D,{cls:=.type "list",data:=.seq aq.toArray k}):=by simpa using hp
   subst i4;exact⟨Yl,lR,tN,YO,λv z=>nomatch z⟩
  have Qz:∀p∈[((D,{cls:=.type "list",data:=.seq aq.toArray k}):Addr×Obj)],p.1=D:=λp hp=>by
   have i4:p=(D,{cls:=.type "list",data:=.seq aq.toArray k}):=by simpa using hp
   rw[i4]
  rcases tu with⟨stop,qn⟩|⟨go,step⟩
  ·refine wpAny_mono (T.done (hV X scope own cl N' C cL H2 fp) rfl rfl rfl hc i _ s' (cO aD σ) H' (λ_ _=>False) Ib (tv Qz UD) Tp stop) (λr s4 Qi=>?_) λ_ _ z=>z.elim;obtain⟨hr,Ic⟩:=Qi;subst hr;exact fin D C s4 H' ys aq k rfl lB tN Ic lR rv hsz qn
  ·refine wpAny_mono (T.item (hV X scope own cl N' C cL H2 fp) rfl rfl rfl hc i _ s' (cO aD σ) H' (λ_ _=>False) Ib (tv Qz UD) Tp go) (λr s4 Qi=>?_) λ_ _ z=>z.elim;obtain⟨u,hr,h4⟩:=Qi;subst hr;refine wpAny_mono h4 (λ_ s5 h5=>?_) λ_ _ z=>z.elim;obtain⟨x,H5,I5,r5,y5,yR,QQ⟩:=h5;have RJ:=I5.pinned (tv Qz QQ) (T.obj _ _ yR);refine wpAny_mono (hg C cL H2 fp _ s5 (cO aD σ) H5 x u _ RJ r5 (step x H5 y5)) (λ_ s6 h6=>?_) λ_ _ z=>z.elim;obtain⟨F6,H6,I6,L6,q6⟩:=h6;refine wpAny_mono (ht C cL H2 fp _ s6 F6 H6 _ I6 q6) (λb s7 h7=>?_) λ_ _ z=>z.elim;obtain⟨H7,I7,q7⟩:=h7

   have back:∀{bJ:St} {M6:Hp} {xj:Shared},Inv (hV X scope own cl N' C cL H2 fp) ([((D,{cls:=.type "list",data:=.seq aq.toArray k}):Addr×Obj)]++qF fp s5.heap) bJ M6 xj->
     xj.heap.get? D=some {cls:=.type "list",data:=.seq aq.toArray k}/\M6 D=none/\(∀b∈fp,M6 b=none)/\tn (i+1) xj.heap:=fun{bJ M6 xj} Iz=>by
    have pz:=λp hp=>Iz.pin p (mem_append_right _ hp);have pD:=pz (D,{cls:=.type "list",data:=.seq aq.toArray k}) (mem_append_left _ mem_cons_self);refine⟨pD.1,pD.2.1,λb hb=>?_,T.keep _ _ _ yR λb hb o e=>(pz (b,o) (mem_append_right _ (m9 hb e))).1⟩;obtain⟨o,e,_⟩:=T.obj _ _ yR b hb;exact(pz (b,o) (mem_append_right _ (m9 hb e))).2.1
   have hits:aq.length=ys.length:=rv.length.symm;cases b with
   |false=>
    rw[if_neg Bool.false_ne_true]at q7 ⊢;obtain⟨m',hm,w7⟩:=q7;obtain⟨b1,b2,b3,b4⟩:=back I7;exact⟨m',hm,i+1,ys,aq,H7,k,(I7.oy (pins':=[]) λp hp=>absurd hp (by simp)).weak L6.len L6.get,b4,b3,b2,b1,rv,w7⟩
   |true=>
    rw[if_pos rfl]at q7 ⊢;refine wpAny_mono (he C cL H2 fp _ s7 F6 H7 _ I7 q7) (λy s8 h8=>?_) λ_ _ z=>z.elim;obtain⟨v,H8,I8,r8,m',hm,w8⟩:=h8;obtain⟨b1,b2,b3,b4⟩:=back I8;refine wpAny_list_append_plain (l:=D) (items:=aq.toArray) (hsz:=by rw[size_toArray];omega) ⟨k,b1⟩ λh' lA xE=>?_;obtain⟨k',e'⟩:=lA;have I9:Inv (hV X scope own cl N' C cL H2 fp) [] F6 H8 {s8 with heap:=h',toks:=s8.toks}:=(I8.oy (pins':=[]) λp hp=>absurd hp (by simp)).turned (it:=D) (λb o hb e=>(xE.2 b hb).trans e) b2 tN (.inr (Nat.le_of_eq hD))
     (λx c e=>T8 x c e) (λp hp=>absurd (show p∈([]:List (Addr×Obj))from hp) (by simp))
    refine⟨m',hm,i+1,ys++[v],aq++[y],H8,k',I9.weak L6.len L6.get,T.keep _ _ _ b4 λb hb o e=>(xE.2 b (ne_of_lt (LC b hb))).trans e,b3,b2,?_,rv.append (.cons r8 .nil),w8⟩;have UK:h'.get? D=_:=e';rw[List.push_toArray]at UK;exact UK
 exact codeAny_compStart_list (loop _ rfl) (T.self X.A 0 _ _ _ (T.keep _ _ _ qp λb _ o e=>old b o e) (loop _ rfl))
variable {wi:TI}
theorem zB{aD:List (Option Nat)}{g:TG}(hc:X.calm=true)(B:Bl X scope own cl N' aD)(hi:PI X tg iter wi)(hg:∀C aw af ex,PG (hV X scope own cl N' C aw af ex) tg g)(ht:∀C aw af ex,rG (hV X scope own cl N' C aw af ex) ifs jh)(he:∀C aw af ex,PE (hV X scope own cl N' C aw af ex) elt te)(hs:∀x,foldedSetIterable iter X.env x=pure x:=by intro _;rfl):PE X (.ListComp elt [⟨tg,iter,ifs,0⟩] scope pos) (ni aD wi g jh te):=by
 intro pins s σ H Q I h;rw[eval_ListComp];refine wpAny_comprehension_free (use:=none) rfl hs B.wC B.kind B.names (cz (hi pins s σ H _ I h) λxv cq k7=>cz k7 λLb cL zY=>?_);obtain⟨it,fp,tn,J,H2,e,I2,T,qp,f2,W,⟨m0,w0⟩,turn⟩:=zY;subst e;refine vp (RR:=λacc C=>compPost (model X.prog X.w) X.A X.xe none (EP X pins σ Q) acc C) hc B hg ht he I2 T qp f2 w0 turn λD C s4 H' ys aq k hD lB tN Ic lR rv hsz qn=>?_;obtain⟨m,hn,_⟩:=Ic.loc;refine⟨m,hn,λh' xE=>?_⟩;have JO:s4.heap.get? D=some {cls:=.type "list",data:=.seq aq.toArray k}:=(Ic.pin (D,_) (by simp)).1;have LA:H' C=none:=Ic.free;have un:Un (mS X.stack) fp H2 (upd H' D (.lst ys)) cL.heap h':=by
  have bs:=Ic.base;have xt:∀b o,cL.heap.get? b=some o->h'.get? b=s4.heap.get? b:=λb o e=>by
   have:b<D:=by rw[<- hD];exact lt_size e
   exact xE.2 b (ne_of_lt (lt_of_lt_of_le this lB))
  refine⟨λb o e n h1 h2=>(xt b o e).trans (bs.keep b o e n h1 h2),λb o e n h1 h2=>?_,λb o e n h2=>?_,λb o e h2=>?_,λb xs e=>?_,λb o u e=>?_,λb ps e=>?_⟩
  ·obtain⟨sl,q⟩:=bs.slot b o e n h1 h2;exact⟨sl,(xt b o e).trans q⟩
  ·have:b<D:=by rw[<- hD];exact lt_size e
   rw[bB (ne_of_lt this)];exact bs.free b o e n h2
  ·obtain⟨o',q⟩:=bs.there b o e h2;exact⟨o',(xt b o e).trans q⟩
  ·have q:=bs.nM b xs e;rw[bB (bp q lR)];exact q
  ·have q:=bs.f7 b o u e;rw[bB (bp q lR)];exact q
  ·obtain⟨more,q⟩:=bs.nO b ps e;exact⟨more,by rw[bB (bp q lR)];exact q⟩
 have bR:i7 X.prog X.w (upd H' D (.lst ys)) h':=λb u e=>by
  by_cases hb:b=D
  ·subst hb;rw[dC]at e;cases e;exact⟨Nat.le_of_lt hsz,aq,k,rv,(xE.2 _ (by show _≠C;exact tN)).trans JO⟩
  ·rw[bB hb]at e;refine(Ic.bR b u e).nP (λc v Hn q=>(xE.2 c ?_).trans q) (λc q=>by rw[bB (bp q lR)];exact q) λc xs q=>by rw[bB (bp q lR)];exact q
   rcases Hn with z|z
   ·rw[z];exact bp e LA
   ·exact bp z LA
 have If:=I2.LQ (s':={s4 with heap:=h'}) (H':=upd H' D (.lst ys)) (ch:=fp) Ic.os un bR Ic.bare λb hb=>⟨(f2 b hb).2.2.2.1,(f2 b hb).2.1,(f2 b hb).2.2.2.2.1,(f2 b hb).2.2.2.2.2⟩;exact⟨.ref D,_,If,rfl,qn D lR⟩
theorem we:∀{names:List (Str×NameKind)},(∀y∈names,y.2≠.cell)->(∀n cl,cellsFrom n names cl=cl)/\∀h,pushCells h names=h
 |[],_=>⟨λ_ _=>rfl,λ_=>rfl⟩
 |(x,k)::r,h=>by
  have hk:(k==NameKind.cell)=false:=by simpa using h (x,k) mem_cons_self
  obtain⟨h1,h2⟩:=we (names:=r) λy hy=>h y (mem_cons_of_mem _ hy);refine⟨λn cl=>?_,λh=>?_⟩
  ·unfold cellsFrom;rw[if_neg (by rw[hk];exact Bool.false_ne_true),h1]
  ·unfold pushCells;rw[if_neg (by rw[hk];exact Bool.false_ne_true),h2]
theorem nK.g{aD:List (Option Nat)}(B:nK X scope cl N' aD):Bl X scope none cl N' aD:=
 ⟨B.wC,λn=>(we B.cells).1 _ _,(we B.cells).2,B.kind,B.names,B.len,(λ_ z=>by cases z),B.sub,λx h=>.inr (B.has x h),λi x j h1 h2=>let ⟨a,b,c,d⟩:=B.aD i x j h1 h2;⟨a,b,c,d,(λz=>by cases z)⟩⟩
theorem w9{aD:List (Option Nat)}{g:TG}(hc:X.calm=true)(B:nK X scope cl N' aD)(hi:PI X tg iter wi)(hg:∀C aw af ex,PG (fP X scope cl N' C aw af ex) tg g)(ht:∀C aw af ex,rG (fP X scope cl N' C aw af ex) ifs jh)(he:∀C aw af ex,PE (fP X scope cl N' C aw af ex) elt te)(hs:∀x,foldedSetIterable iter X.env x=pure x:=by intro _;rfl):PE X (.ListComp elt [⟨tg,iter,ifs,0⟩] scope pos) (ni aD wi g jh te):=zB (own:=none) hc B.g hi hg ht he hs
end
end L2
namespace L3
noncomputable section
open PySem PySem.Spec PyProof.Rows L2
open PySem.W (Dat kqdOk kqdP kqdPs kqd_lay kqd_eqv)
abbrev Fg:=Frag
abbrev dA:=Addr->Prop
abbrev ax:=List (Option Dat)
def EU (K:Fg) (H:Hp) (Av:dA) (a:Addr) (xs:List V):Prop:=
 (Rd H a (.tup xs)/\¬Av a)\/∃(o:Obj) (aq:Array Value) (n:Nat),K.lookup a=some o/\o.cls=.type "tuple"/\o.data=.seq aq n/\aq.size<=sizeLine/\Vals xs aq.toList
def EV (K:Fg) (H:Hp) (Av:dA) (a:Addr) (xs:List V):Prop:=
 (Rd H a (.lst xs)/\¬Av a)\/∃(o:Obj) (aq:Array Value) (n:Nat),K.lookup a=some o/\o.cls=.type "list"/\o.dict=none/\o.data=.seq aq n/\aq.size<=sizeLine/\Vals xs aq.toList
variable {K:Fg} {H:Hp} {Av:dA} {a:Addr} {xs:List V}
theorem EU.sq(h:EU K H Av a xs):j6 K H a xs:=h.elim (λz=>.inl z.1) .inr
theorem EV.sq(h:EV K H Av a xs):fk K H a xs:=h.elim (λz=>.inl z.1) .inr
mutual
inductive aS (K:Fg) (H:Hp) (Av:dA):V->Dat->Prop
 |bW:aS K H Av .bW .none
 |bl (b:Bool):aS K H Av (.bl b) (.bool b)
 |int (i:Int):aS K H Av (.int i) (.int i)
 |str (x:Str):aS K H Av (.str x) (.str x)
 |tup {a:Addr} {xs:List V} {ds:List Dat}:EU K H Av a xs->aB K H Av xs ds->aS K H Av (.ref a) (.tuple ds)
 |lst {a:Addr} {xs:List V} {ds:List Dat}:EV K H Av a xs->aB K H Av xs ds->aS K H Av (.ref a) (.list ds)
inductive aB (K:Fg) (H:Hp) (Av:dA):List V->List Dat->Prop
 |nil:aB K H Av [] []
 |cons {v:V} {vs:List V} {d:Dat} {ds:List Dat}:aS K H Av v d->aB K H Av vs ds->aB K H Av (v::vs) (d::ds)
end
variable {H':Hp} {Av':dA}
def lK (H:Hp) (Av:dA) (H':Hp) (Av':dA):Prop:=∀b o,H b=some o->¬Av b->H' b=some o/\¬Av' b
theorem C4(k:lK H Av H' Av'){u:HO}(h:Rd H a u/\¬Av a):Rd H' a u/\¬Av' a:=by
 obtain⟨h,n⟩:=h;rcases h with h|⟨o,h⟩
 ·exact⟨.inl (k _ _ h n).1,(k _ _ h n).2⟩
 ·exact⟨.inr ⟨o,(k _ _ h n).1⟩,(k _ _ h n).2⟩
mutual
theorem aS.mono(k:lK H Av H' Av'):∀{v:V} {d:Dat},aS K H Av v d->aS K H' Av' v d
 |_,_,.bW=>.bW
 |_,_,.bl b=>.bl b
 |_,_,.int i=>.int i
 |_,_,.str x=>.str x
 |_,_,.tup h r=>.tup (h.elim (λz=>.inl (C4 k z)) .inr) (aB.mono k r)
 |_,_,.lst h r=>.lst (h.elim (λz=>.inl (C4 k z)) .inr) (aB.mono k r)
theorem aB.mono (k:lK H Av H' Av'):∀{vs:List V} {ds:List Dat},aB K H Av vs ds->aB K H' Av' vs ds
 |_,_,.nil=>.nil
 |_,_,.cons h r=>.cons (aS.mono k h) (aB.mono k r)
end
theorem xC(e:aQ H H'):lK H Av H' Av:=λb o h n=>⟨e b o h,n⟩
theorem xB(w:∀a,Av' a->Av a):lK H Av H Av':=λb o h n=>⟨h,λz=>n (w _ z)⟩
theorem aS.same(e:aQ H H'){v:V}{d:Dat}(r:aS K H Av v d):aS K H' Av v d:=r.mono (xC e)
theorem aB.same(e:aQ H H'){v:List V}{d:List Dat}(r:aB K H Av v d):aB K H' Av v d:=r.mono (xC e)
theorem aS.weak(w:∀a,Av' a->Av a){v:V}{d:Dat}(r:aS K H Av v d):aS K H Av' v d:=r.mono (xB w)
theorem aB.weak(w:∀a,Av' a->Av a){v:List V}{d:List Dat}(r:aB K H Av v d):aB K H Av' v d:=r.mono (xB w)
theorem aB.length:∀{vs:List V} {ds:List Dat},aB K H Av vs ds->vs.length=ds.length
 |_,_,.nil=>rfl
 |_,_,.cons _ r=>congrArg (· + 1) (aB.length r)
theorem aB.get:∀{vs:List V} {ds:List Dat} {i:Nat} {d:Dat},aB K H Av vs ds->ds[i]?=some d->∃v,vs[i]?=some v/\aS K H Av v d
 |_,_,_,_,.nil,e=>by simp at e
 |_,_,0,_,.cons h _,e=>by simp at e;subst e;exact⟨_,rfl,h⟩
 |_,_,i+1,d,.cons _ r,e=>by
  obtain⟨v,h1,h2⟩:=aB.get (i:=i) (d:=d) r (by simpa using e);exact⟨v,by simpa using h1,h2⟩
theorem aB.append:∀{vs ws:List V} {ds es:List Dat},aB K H Av vs ds->aB K H Av ws es->aB K H Av (vs++ws) (ds++es)
 |_,_,_,_,.nil,s=>s
 |_,_,_,_,.cons h r,s=>.cons h (aB.append r s)
theorem aB.take:∀{vs:List V} {ds:List Dat} (n:Nat),aB K H Av vs ds->aB K H Av (vs.take n) (ds.take n)
 |_,_,0,_=>.nil
 |_,_,_+1,.nil=>.nil
 |_,_,n+1,.cons r t=>.cons r (aB.take n t)
theorem aB.drop:∀{vs:List V} {ds:List Dat} (n:Nat),aB K H Av vs ds->aB K H Av (vs.drop n) (ds.drop n)
 |_,_,0,r=>r
 |_,_,_+1,.nil=>.nil
 |_,_,n+1,.cons _ t=>aB.drop n t
theorem aB.ints(ns:List Int):aB K H Av (ns.map V.int) (ns.map Dat.int):=by
 induction ns with
 |nil=>exact .nil
 |cons n ns ih=>exact .cons (.int n) ih
variable {p:Addr}
theorem bK(h:H p=none)(o:HO):aQ H (upd H p o):=λb u q=>by rw[bB (bp q h)];exact q
def fJ (H:Hp) (Av:dA):Prop:=∀a,Av a->∃o,H a=some o
theorem fJ.same(e:aQ H H')(h:fJ H Av):fJ H' Av:=λa z=>let ⟨o,q⟩:=h a z;⟨o,e a o q⟩
theorem fJ.new(h:fJ H Av)(e:H p=none):¬Av p:=λz=>by
 obtain⟨o,q⟩:=h p z;rw[e]at q;cases q
variable {ds:List Dat}
theorem aS.tL(h:fJ H Av)(e:H p=none)(r:aB K H Av xs ds):aS K (upd H p (.tup xs)) Av (.ref p) (.tuple ds):=
 .tup (.inl ⟨.inl dC,h.new e⟩) (r.same (bK e _))
theorem aS.nV(h:fJ H Av)(e:H p=none)(r:aB K H Av xs ds):aS K (upd H p (.lst xs)) Av (.ref p) (.list ds):=
 .lst (.inl ⟨.inl dC,h.new e⟩) (r.same (bK e _))
def dS (K:Fg) (H:Hp) (Av:dA) (σ:L2.St) (ρ:ax):Prop:=∀(i:Nat) (d:Dat),ρ[i]?=some (some d)->∃v,σ[i]?=some (some v)/\aS K H Av v d
variable {ρ:ax}
theorem dS.same{σ:L2.St}(e:aQ H H')(h:dS K H Av σ ρ):dS K H' Av σ ρ:=λi d q=>let ⟨v,a,r⟩:=h i d q;⟨v,a,r.same e⟩
def tF (K:Fg) (f:ax->Option Dat):TE:=λσ H Q=>∃Av ρ d,fJ H Av/\dS K H Av σ ρ/\f ρ=some d/\∀v H',aQ H H'->aS K H' Av v d->Q v H'
def iC (K:Fg) (f:ax->Option Bool):TT:=λσ H Q=>∃Av ρ b,fJ H Av/\dS K H Av σ ρ/\f ρ=some b/\∀H',aQ H H'->Q b H'
def KC (K:Fg) (f:ax->Option (List Dat)):TA:=λσ H Q=>∃Av ρ ds,fJ H Av/\dS K H Av σ ρ/\f ρ=some ds/\∀vs H',aQ H H'->aB K H' Av vs ds->Q vs H'
abbrev PF (X:Cx) (e:Expr) (f:ax->Option Dat):Prop:=PE X e (tF X.K f)
abbrev V4 (X:Cx) (e:Expr) (f:ax->Option Bool):Prop:=PT X e (iC X.K f)
abbrev M1 (X:Cx) (e:List Expr) (f:ax->Option (List Dat)):Prop:=PA X e (KC X.K f)
variable {e:Expr} {X:Cx}
theorem bo{t t':TE}(h:PE X e t)(m:∀σ H Q,t' σ H Q->t σ H Q):PE X e t':=λpins s σ H Q I q=>h pins s σ H Q I (m σ H Q q)
theorem kM{t t':TT}(h:PT X e t)(m:∀σ H Q,t' σ H Q->t σ H Q):PT X e t':=λpins s σ H Q I q=>h pins s σ H Q I (m σ H Q q)
theorem vZ{t t':TT}(h:PW X e t)(m:∀σ H Q,t' σ H Q->t σ H Q):PW X e t':=λw pins s σ H Q I q=>h w pins s σ H Q I (m σ H Q q)
variable {es:List Expr}
theorem rZ{t t':TA}(h:PA X es t)(m:∀σ H Q,t' σ H Q->t σ H Q):PA X es t':=λp pins s σ H Q I q=>h p pins s σ H Q I (m σ H Q q)
def aH (i:Nat):ax->Option Dat:=λρ=>(ρ[i]?).join
def fC (d:Dat):ax->Option Dat:=λ_=>some d
variable {d:Dat}
theorem join_some{o:Option (Option Dat)}(h:o.join=some d):o=some (some d):=by
 cases o with
 |none=>cases h
 |some q=>exact congrArg some h
variable {fb fa:ax->Option Dat} {a b:Expr}
def f2 (g:Dat->Dat->Option Dat) (fa fb:ax->Option Dat):ax->Option Dat:=λρ=>(fa ρ).bind λa=>(fb ρ).bind λb=>g a b
def kh (K:Fg) (r:R2) (g:Dat->Dat->Option Dat):Prop:=∀(H:Hp) (Av:dA) (x y:V) (dx dy d:Dat) (Q:VK),fJ H Av->aS K H Av x dx->aS K H Av y dy->g dx dy=some d->(∀v H',aQ H H'->aS K H' Av v d->Q v H')->r x y H Q
variable {α:Type}
theorem bind_some{β:Type}{o:Option α}{g:α->Option β}{b:β}(h:o.bind g=some b):∃a,o=some a/\g a=some b:=by
 cases o with
 |none=>cases h
 |some a=>exact⟨a,rfl,h⟩
variable {r:R2}
theorem yo{g:Dat->Dat->Option Dat}(hr:kh K r g):∀σ H Q,tF K (f2 g fa fb) σ H Q->BR r (tF K fa) (tF K fb) σ H Q:=by
 rintro σ H Q ⟨Av,ρ,d,hA,hE,hf,q⟩;obtain⟨dx,e1,hf⟩:=bind_some hf;obtain⟨dy,e2,hf⟩:=bind_some hf;refine⟨Av,ρ,dx,hA,hE,e1,λx H1 s1 r1=>⟨Av,ρ,dy,hA.same s1,hE.same s1,e2,λy H2 s2 r2=>?_⟩⟩;exact hr H2 Av x y dx dy d Q (hA.same (s1.trans s2)) (r1.same s2) r2 hf λv H' s3 r3=>q v H' (s1.trans (s2.trans s3)) r3
variable {pos:Pos}
theorem mK{op:Operator}{g:Dat->Dat->Option Dat}(ho:dO X (binaryOp op) r)(hd:kh X.K r g)(ha:PF X a fa)(hb:PF X b fb):PF X (.BinOp a op b pos) (f2 g fa fb):=bo (E1 ho ha hb) (yo hd)
theorem oA{op:CmpOp}{g:Dat->Dat->Option Dat}(ho:dO X (compareOp op) r)(hd:kh X.K r g)(ha:PF X a fa)(hb:PF X b fb)(hm:behindInMarks op b=false):PF X (.Compare a [op] [b] pos) (f2 g fa fb):=bo (Cd ho ha hb hm) (yo hd)
def lE:Dat->Option Bool
 | .bool b=>some b
 |_=>none
variable {f:ax->Option Dat}
def bY (f:ax->Option Dat):ax->Option Bool:=λρ=>(f ρ).bind lE
theorem n9{b:Bool}(h:lE d=some b):d=.bool b:=by
 cases d<;>first|(cases h;done)|(simp only[lE,Option.some.injEq]at h;rw[h])
variable {v:V}
theorem aS.kg{b:Bool}(h:aS K H Av v (.bool b)):v=.bl b:=by cases h;rfl
theorem aS.d7{b:Int}(h:aS K H Av v (.int b)):v=.int b:=by cases h;rfl
theorem aS.iq{b:Str}(h:aS K H Av v (.str b)):v=.str b:=by cases h;rfl
theorem aS.L4(h:aS K H Av v .none):v=.bW:=by cases h;rfl
theorem aS.ff(h:aS K H Av v (.tuple ds)):∃a xs,v=.ref a/\EU K H Av a xs/\aB K H Av xs ds:=by cases h with|tup h r=>exact⟨_,_,rfl,h,r⟩
theorem aS.fq(h:aS K H Av v (.list ds)):∃a xs,v=.ref a/\EV K H Av a xs/\aB K H Av xs ds:=by cases h with|lst h r=>exact⟨_,_,rfl,h,r⟩
theorem Ml{t:TE}(m:∀σ H Q,tF K f σ H Q->t σ H Q):∀σ H Q,iC K (bY f) σ H Q->Ky t σ H Q:=by
 rintro σ H Q ⟨Av,ρ,b,hA,hE,hf,q⟩;obtain⟨d,e1,hf⟩:=bind_some hf;have e2:=n9 hf;subst e2;exact m σ H _ ⟨Av,ρ,.bool b,hA,hE,e1,λv H' s r=>⟨b,r.kg,q H' s⟩⟩
theorem gD{op:CmpOp}{g:Dat->Dat->Option Dat}(ho:dO X (compareOp op) r)(hd:kh X.K r g)(ha:PF X a fa)(hb:PF X b fb)(hm:behindInMarks op b=false):V4 X (.Compare a [op] [b] pos) (bY (f2 g fa fb)):=kM (C9 ho ha hb hm) (Ml (yo hd))
def mC:Dat->Option Bool
 | .none=>some false
 | .bool b=>some b
 | .int i=>some (i !=0)
 | .str y=>if y.length<=sizeLine then some ((y.length:Int) !=0)else none
 | .list ds=>some (!ds.isEmpty)
 | .tuple ds=>some (!ds.isEmpty)
 |_=>none
def o6 (f:ax->Option Dat):ax->Option Bool:=λρ=>(f ρ).bind mC
variable {vs:List V}
theorem aB.emp(h:aB K H Av vs ds):ds.isEmpty=vs.isEmpty:=by cases h<;>rfl
theorem FC{k:Bool}(r:aS K H Av v d)(h:mC d=some k):Ki K v H k:=by
 cases r with
 |bW=>cases h;exact rfl
 |bl b=>cases h;exact rfl
 |int i=>cases h;exact rfl
 |str x=>
  simp only[mC]at h;split at h
  ·rename_i hz;cases h;exact⟨hz,rfl⟩
  ·cases h
 |tup hq rs=>cases h;exact .inr (.inl ⟨_,hq.sq,by rw[rs.emp]⟩)
 |lst hq rs=>cases h;exact .inl ⟨_,hq.sq,by rw[rs.emp]⟩
variable {c:Expr}
def mh (f g:ax->Option Bool):ax->Option Bool:=λρ=>(f ρ).bind λc=>if c=true then g ρ else some false
def lI (f g:ax->Option Bool):ax->Option Bool:=λρ=>(f ρ).bind λc=>if c=true then some true else g ρ
def lj (f:ax->Option Bool):ax->Option Bool:=λρ=>(f ρ).map (!·)
abbrev ZG (X:Cx) (e:Expr) (f:ax->Option Bool):Prop:=PW X e (iC X.K f)
def pM (f g:ax->Option Dat):ax->Option Dat:=λρ=>(f ρ).bind λd=>(lE d).bind λc=>if c=true then g ρ else some (.bool false)
def xM (f g:ax->Option Dat):ax->Option Dat:=λρ=>(f ρ).bind λd=>(lE d).bind λc=>if c=true then some (.bool true)else g ρ
def qZ (f:ax->Option Dat):ax->Option Dat:=λρ=>(f ρ).bind λd=>(lE d).map λc=>.bool (!c)
variable {ft:ax->Option Bool}
def vd (ft:ax->Option Bool) (f g:ax->Option Dat):ax->Option Dat:=λρ=>(ft ρ).bind λc=>if c=true then f ρ else g ρ
def f1 (g:Dat->Option Dat) (fa:ax->Option Dat):ax->Option Dat:=λρ=>(fa ρ).bind g
def YV (K:Fg) (r:V->Hp->VK->Prop) (g:Dat->Option Dat):Prop:=∀(H:Hp) (Av:dA) (x:V) (dx d:Dat) (Q:VK),fJ H Av->aS K H Av x dx->g dx=some d->(∀v H',aQ H H'->aS K H' Av v d->Q v H')->r x H Q
theorem Ss{op:UnaryOp}{r:V->Hp->VK->Prop}{g:Dat->Option Dat}(ho:LX X (unaryOp op) r)(hd:YV X.K r g)(ha:PF X a fa):PF X (.UnaryOp op a pos) (f1 g fa):=bo (Su ho ha) λσ H Q aM=>by
 obtain⟨Av,ρ,d,hA,hE,hf,q⟩:=aM;obtain⟨dx,e1,hf⟩:=bind_some hf;exact⟨Av,ρ,dx,hA,hE,e1,λx H1 s1 r1=>hd H1 Av x dx d Q (hA.same s1) r1 hf λv H2 s2 r2=>q v H2 (s1.trans s2) r2⟩
def bS:ax->Option (List Dat):=λ_=>some []
def aO (f:ax->Option Dat) (g:ax->Option (List Dat)):ax->Option (List Dat):=λρ=>(f ρ).bind λd=>(g ρ).map (d::·)
theorem aT{β:Type}{o:Option α}{g:α->β}{b:β}(h:o.map g=some b):∃a,o=some a/\g a=b:=by
 cases o with
 |none=>cases h
 |some a=>exact⟨a,rfl,Option.some.inj h⟩
def kR (g:ax->Option (List Dat)):ax->Option Dat:=λρ=>(g ρ).bind λds=>if ds.length<=sizeLine then some (.tuple ds)else none
def o7 (g:ax->Option (List Dat)):ax->Option Dat:=λρ=>(g ρ).bind λds=>if ds.length<=sizeLine then some (.list ds)else none
variable {fs:ax->Option (List Dat)} in
def d8 (g:List Dat->Option Dat) (fs:ax->Option (List Dat)):ax->Option Dat:=λρ=>(fs ρ).bind g
def pV (K:Fg) (r:List V->Hp->VK->Prop) (g:List Dat->Option Dat):Prop:=∀(H:Hp) (Av:dA) (xs:List V) (ds:List Dat) (d:Dat) (Q:VK),fJ H Av->aB K H Av xs ds->g ds=some d->(∀v H',aQ H H'->aS K H' Av v d->Q v H')->r xs H Q
variable {r:List V->Hp->VK->Prop}
variable {fs:ax->Option (List Dat)} in
theorem BS{g:List Dat->Option Dat}(hr:pV K r g):∀σ H Q,tF K (d8 g fs) σ H Q->Ot r (KC K fs) σ H Q:=by
 rintro σ H Q ⟨Av,ρ,d,hA,hE,hf,q⟩;obtain⟨ds,e1,hf⟩:=bind_some hf;exact⟨Av,ρ,ds,hA,hE,e1,λxs H1 s1 r1=>hr H1 Av xs ds d Q (hA.same s1) r1 hf λv H2 s2 r2=>q v H2 (s1.trans s2) r2⟩
variable {x:Str}
variable {fs:ax->Option (List Dat)} in
theorem zA{p:Pos}{id:String}{g:List Dat->Option Dat}(hc:km X (.builtin id) r)(hd:pV X.K r g)(hm:X.mg x=none)(ha:M1 X (e::es) fs)(hg:Gl X x:=by rfl)(hv:bootBuiltins x=some (.builtin id):=by rfl)(hn:x≠"__name__":=by decide)(iP:(x==("__debug__" : Str))=false:=by decide)(he:starEach (e::es) X.env=(false,eval e X.env)::starEach es X.env:=by rfl)(dJ:(backTo pos (starEach es X.env)).any (·.1)=false:=by rfl):PF X (.Call (.Name x p) (e::es) [] pos) (d8 g fs):=bo (zC hc hg hm hv ha hn iP he dJ) (BS hd)
variable {fs:ax->Option (List Dat)} in
theorem xp{p:Pos}{T:String}{g:List Dat->Option Dat}(hc:km X (.type T) r)(hd:pV X.K r g)(hm:X.mg x=none)(ha:M1 X (e::es) fs)(hg:Gl X x:=by rfl)(hv:bootBuiltins x=some (.type T):=by rfl)(hn:x≠"__name__":=by decide)(iP:(x==("__debug__" : Str))=false:=by decide)(he:starEach (e::es) X.env=(false,eval e X.env)::starEach es X.env:=by rfl)(dJ:(backTo pos (starEach es X.env)).any (·.1)=false:=by rfl):PF X (.Call (.Name x p) (e::es) [] pos) (d8 g fs):=bo (qJ hc hg hm hv ha hn iP he dJ) (BS hd)
def FF (K:Fg) (n:Nat) (F:List Dat->Option Dat):Sp:=λvs H Q _=>∃Av ds d,fJ H Av/\aB K H Av vs ds/\ds.length=n/\F ds=some d/\∀v H',aQ H H'->aS K H' Av v d->Q v H'
variable {fs:ax->Option (List Dat)} in
def iR (n:Nat) (F:List Dat->Option Dat) (fs:ax->Option (List Dat)):ax->Option Dat:=λρ=>(fs ρ).bind λds=>if ds.length=n then F ds else none
variable {n:Nat} {F:List Dat->Option Dat}
variable {fs:ax->Option (List Dat)} in
theorem Se{E:XK}:∀σ H Q,tF K (iR n F fs) σ H Q->KD (FF K n F) [] E (KC K fs) σ H Q:=by
 rintro σ H Q ⟨Av,ρ,d,hA,hE,hf,q⟩;obtain⟨ds,e1,hf⟩:=bind_some hf;split at hf
 ·rename_i hl;exact⟨Av,ρ,ds,hA,hE,e1,λxs H1 s1 r1=>⟨Av,ds,d,hA.same s1,by rw[append_nil];exact r1,hl,hf,λv H2 s2 r2=>q v H2 (s1.trans s2) r2⟩⟩
 ·cases hf
structure Dn (P:Program) (w:World) (K:Fg) (mg:Str->Option Value) (base:Heap) (k:Nat) (x:Str) (ps:List Str) (n:Nat) (F:List Dat->Option Dat):Prop where
 ex:∃(f:Addr) (fd:FuncData),gn P w K mg base gO k f fd ps (FF K n F)/\mg x=some (.ref f)/\keepIn K (.ref f)=true/\Binds K fd ps []
variable {P:Program} {w:World} {mg:Str->Option Value} {base:Heap} {ps:List Str}
theorem Dn.up{j k:Nat}(D:Dn P w K mg base j x ps n F)(h:j<=k):Dn P w K mg base k x ps n F:=by
 obtain⟨f,fd,h1,h2⟩:=D.ex;exact⟨f,fd,h1.mono h,h2⟩
open PySem PySem.Spec PyProof.Rows L2
open PySem.W (Dat)
inductive Slot where
 |a8 (d:Dat)
 |own (ds:List Dat)
 |obj (O:Addr->List V->Heap->Prop) (ds:List Dat)
def Slot.mt:Slot->Bool
 | .a8 _=>false
 |_=>true
abbrev ar:=List (Option Slot)
def bG (Γ:ar):ax:=Γ.map λo=>match o with|some (.a8 d)=>some d|_=>none
def bE (Γ:ar):ax:=Γ.map λo=>match o with|some (.a8 d)=>some d|some (.own ds)=>some (.list ds)|_=>none
def bz (Av:dA) (Γ:ar) (ad:Nat->Addr):dA:=λa=>Av a\/∃(i:Nat) (s:Slot),Γ[i]?=some (some s)/\s.mt=true/\ad i=a
abbrev Hid:=List (V×Dat)
structure GA (K:Fg) (af:Hp) (Av:dA) (pn:Option Addr) (aC:Hid) (H:Hp) (σ:L2.St) (Γ:ar) (ad:Nat->Addr):Prop where
 same:aQ af H
 fH:fJ af Av
 len:σ.length=Γ.length
 a8:∀(i:Nat) (d:Dat),Γ[i]?=some (some (.a8 d))->∃v,σ[i]?=some (some v)/\aS K H (bz Av Γ ad) v d
 own:∀(i:Nat) (ds:List Dat),Γ[i]?=some (some (.own ds))->∃xs,σ[i]?=some (some (.ref (ad i)))/\H (ad i)=some (.lst xs)/\aB K H (bz Av Γ ad) xs ds/\af (ad i)=none
 inj:∀(i j:Nat) (s t:Slot),Γ[i]?=some (some s)->Γ[j]?=some (some t)->s.mt=true->t.mt=true->ad i=ad j->i=j
 aC:∀p∈aC,aS K H (bz Av Γ ad) p.1 p.2
 pin:∀a ds,pn=some a->Γ[0]?=some (some (.own ds))->ad 0=a
 obj:∀(i:Nat) (O:Addr->List V->Heap->Prop) (ds:List Dat),Γ[i]?=some (some (.obj O ds))->∃xs,σ[i]?=some (some (.ref (ad i)))/\H (ad i)=some (.ext (O (ad i) xs))/\aB K H (bz Av Γ ad) xs ds/\af (ad i)=none
def kj (K:Fg) (af:Hp) (Av:dA) (pn:Option Addr) (aC:Hid) (H:Hp) (σ:L2.St) (Γ:ar):Prop:=∃ad,GA K af Av pn aC H σ Γ ad
variable {σ:L2.St} {Γ:ar} {pn:Option Addr} {ad:Nat->Addr} {af:Hp} {aC:Hid} {i:Nat}
theorem GA.mt(G:GA K af Av pn aC H σ Γ ad){s:Slot}(h:Γ[i]?=some (some s))(m:s.mt=true):(∃o,H (ad i)=some o)/\af (ad i)=none:=by
 cases s with
 |a8 d=>cases m
 |own ds=>obtain⟨xs,_,a,_,b⟩:=G.own i ds h;exact⟨⟨_,a⟩,b⟩
 |obj O ds=>obtain⟨xs,_,a,_,b⟩:=G.obj i O ds h;exact⟨⟨_,a⟩,b⟩
theorem GA.Q1(G:GA K af Av pn aC H σ Γ ad)(i j:Nat)(ds es:List Dat)(h1:Γ[i]?=some (some (.own ds)))(h2:Γ[j]?=some (some (.own es)))(e:ad i=ad j):i=j:=G.inj i j _ _ h1 h2 rfl rfl e
theorem GA.gu(G:GA K af Av pn aC H σ Γ ad):fJ H (bz Av Γ ad):=by
 rintro a (z|⟨i,s,e,m,rfl⟩)
 ·exact(G.fH.same G.same) a z
 ·exact(G.mt e m).1
theorem GA.jc(G:GA K af Av pn aC H σ Γ ad):dS K H (bz Av Γ ad) σ (bG Γ):=λi d e=>by
 unfold bG at e;rw[getElem?_map]at e;cases h:Γ[i]? with
 |none=>rw[h]at e;cases e
 |some o=>
  rw[h]at e;cases o with
  |none=>cases e
  |some s=>
   cases s with
   |a8 d'=>cases e;exact G.a8 i d h
   |own ds=>cases e
   |obj O ds=>cases e
theorem GA.kS(G:GA K af Av pn aC H σ Γ ad):dS K H Av σ (bE Γ):=λi d e=>by
 unfold bE at e;rw[getElem?_map]at e;cases h:Γ[i]? with
 |none=>rw[h]at e;cases e
 |some o=>
  rw[h]at e;cases o with
  |none=>cases e
  |some s=>
   cases s with
   |a8 d'=>
    cases e;obtain⟨v,h1,h2⟩:=G.a8 i d h;exact⟨v,h1,h2.weak λ_ z=>.inl z⟩
   |own ds=>
    cases e;obtain⟨xs,h1,h2,h3,h4⟩:=G.own i ds h;refine⟨_,h1,.lst (.inl ⟨.inl h2,λz=>?_⟩) (h3.weak λ_ z=>.inl z)⟩;obtain⟨o,q⟩:=G.fH _ z;rw[h4]at q;cases q
   |obj O ds=>cases e
theorem GA.grow(G:GA K af Av pn aC H σ Γ ad)(e:aQ H H'):GA K af Av pn aC H' σ Γ ad:=
 ⟨G.same.trans e,G.fH,G.len,λi d h=>let ⟨v,a,r⟩:=G.a8 i d h;⟨v,a,r.same e⟩,λi ds h=>let ⟨xs,a,b,r,c⟩:=G.own i ds h;⟨xs,a,e _ _ b,r.same e,c⟩,G.inj,λp hp=>(G.aC p hp).same e,G.pin,λi O ds h=>let ⟨xs,a,b,r,c⟩:=G.obj i O ds h;⟨xs,a,e _ _ b,r.same e,c⟩⟩
theorem aN{l:List α}{j:Nat}{a b:α}(h:(l.set i a)[j]?=some b):(j=i/\b=a)\/(j≠i/\l[j]?=some b):=by
 by_cases e:j=i
 ·subst e;left
  refine⟨rfl,?_⟩;by_cases hl:j<l.length
  ·rw[getElem?_set_self hl]at h;exact(Option.some.inj h).symm
  ·rw[List.getElem?_eq_none (by rw[length_set];omega)]at h;cases h
 ·right
  rw[getElem?_set_ne (Ne.symm e)]at h;exact⟨e,h⟩
theorem f6{l:List α}{a:α}(h:l[i]?=some a):i<l.length:=(List.getElem?_eq_some_iff.mp h).1
theorem bz.fR:∀a,bz Av (Γ.set i (some (.a8 d))) ad a->bz Av Γ ad a:=by
 rintro a (z|⟨j,s,e,m,r⟩)
 ·exact .inl z
 ·rcases aN e with⟨_,q⟩|⟨_,q⟩
  ·cases q;cases m
  ·exact .inr ⟨j,s,q,m,r⟩
theorem GA.set(G:GA K af Av pn aC H σ Γ ad)(i:Nat)(r:aS K H (bz Av Γ ad) v d):GA K af Av pn aC H (σ.set i (some v)) (Γ.set i (some (.a8 d))) ad:=by
 refine⟨G.same,G.fH,by rw[length_set,length_set];exact G.len,λj d' h=>?_,λj ds h=>?_,λj k s t h1 h2 m1 m2 e=>?_,λp hp=>(G.aC p hp).weak bz.fR,λa ds e h=>?_,λj O ds h=>?_⟩
 ·have dw:=f6 h;rw[length_set]at dw;rcases aN h with⟨e,q⟩|⟨e,q⟩
  ·subst e;cases q;exact⟨v,getElem?_set_self (by rw[G.len];exact dw),r.weak bz.fR⟩
  ·obtain⟨u,a,b⟩:=G.a8 j d' q;exact⟨u,by rw[getElem?_set_ne (Ne.symm e)];exact a,b.weak bz.fR⟩
 ·rcases aN h with⟨e,q⟩|⟨e,q⟩
  ·cases q
  ·obtain⟨xs,a,b,c,e'⟩:=G.own j ds q;exact⟨xs,by rw[getElem?_set_ne (Ne.symm e)];exact a,b,c.weak bz.fR,e'⟩
 ·rcases aN h1 with⟨_,q⟩|⟨_,q1⟩
  ·cases q;cases m1
  rcases aN h2 with⟨_,q⟩|⟨_,q2⟩
  ·cases q;cases m2
  exact G.inj j k s t q1 q2 m1 m2 e
 ·rcases aN h with⟨_,q⟩|⟨_,q⟩
  ·cases q
  ·exact G.pin a ds e q
 ·rcases aN h with⟨e,q⟩|⟨e,q⟩
  ·cases q
  ·obtain⟨xs,a,b,c,e'⟩:=G.obj j O ds q;exact⟨xs,by rw[getElem?_set_ne (Ne.symm e)];exact a,b,c.weak bz.fR,e'⟩
theorem GA.yU(G:GA K af Av pn aC H σ Γ ad)(i:Nat)(gM:i≠0)(hp:H p=none)(r:aB K H (bz Av Γ ad) xs ds):
  GA K af Av pn aC (upd H p (.lst xs)) (σ.set i (some (.ref p))) (Γ.set i (some (.own ds))) (λj=>if j=i then p else ad j):=by
 have sm:aQ H (upd H p (.lst xs)):=bK hp _;have Gy:∀j s,Γ[j]?=some (some s)->Slot.mt s=true->ad j≠p:=λj s h m=>by
  obtain⟨⟨o,b⟩,_⟩:=G.mt h m;exact bp b hp
 have kp:lK H (bz Av Γ ad) (upd H p (.lst xs)) (bz Av (Γ.set i (some (.own ds))) (λj=>if j=i then p else ad j)):=by
  intro b o h n;refine⟨sm b o h,?_⟩;rintro(z|⟨j,es,e,m,r⟩)
  ·exact n (.inl z)
  ·rcases aN e with⟨e1,_⟩|⟨e1,q⟩
   ·have r':p=b:=by simpa [e1]using r
    exact bp h hp r'.symm
   ·have r':ad j=b:=by simpa [e1]using r
    exact n (.inr ⟨j,es,q,m,r'⟩)
 have Jo:∀{vs:List V} {d:List Dat},aB K H (bz Av Γ ad) vs d->aB K (upd H p (.lst xs)) (bz Av (Γ.set i (some (.own ds))) (λj=>if j=i then p else ad j)) vs d:=λh=>h.mono kp
 ·refine⟨G.same.trans sm,G.fH,by rw[length_set,length_set];exact G.len,λj d' h=>?_,λj es h=>?_,λj l es fs h1 h2 m1 m2 e=>?_,λq hq=>(G.aC q hq).mono kp,λa es e h=>?_,λj O es h=>?_⟩
  ·rcases aN h with⟨e,q⟩|⟨e,q⟩
   ·cases q
   ·obtain⟨u,a,b⟩:=G.a8 j d' q;exact⟨u,by rw[getElem?_set_ne (Ne.symm e)];exact a,b.mono kp⟩
  ·have dw:=f6 h;rw[length_set]at dw;rcases aN h with⟨e,q⟩|⟨e,q⟩
   ·subst e;cases q;refine⟨xs,?_,?_,Jo r,?_⟩
    ·rw[if_pos rfl];exact getElem?_set_self (by rw[G.len];exact dw)
    ·rw[if_pos rfl];exact dC
    ·rw[if_pos rfl];cases e0:af p with
     |none=>rfl
     |some o=>have:=G.same p o e0;rw[hp]at this;cases this
   ·obtain⟨ys,a,b,c,e'⟩:=G.own j es q;refine⟨ys,?_,?_,Jo c,?_⟩
    ·rw[if_neg e,getElem?_set_ne (Ne.symm e)];exact a
    ·rw[if_neg e];exact sm _ _ b
    ·rw[if_neg e];exact e'
  ·rcases aN h1 with⟨e1,q1⟩|⟨e1,q1⟩
   ·rcases aN h2 with⟨e2,q2⟩|⟨e2,q2⟩
    ·rw[e1,e2]
    ·rw[if_pos e1,if_neg e2]at e;exact absurd e.symm (Gy l fs q2 m2)
   ·rcases aN h2 with⟨e2,q2⟩|⟨e2,q2⟩
    ·rw[if_neg e1,if_pos e2]at e;exact absurd e (Gy j es q1 m1)
    ·rw[if_neg e1,if_neg e2]at e;exact G.inj j l es fs q1 q2 m1 m2 e
  ·rcases aN h with⟨z,_⟩|⟨_,q⟩
   ·exact absurd z.symm gM
   ·show(if 0=i then p else ad 0)=a;rw[if_neg (Ne.symm gM)];exact G.pin a es e q
  ·rcases aN h with⟨e,q⟩|⟨e,q⟩
   ·cases q
   ·obtain⟨ys,a,b,c,e'⟩:=G.obj j O es q;refine⟨ys,?_,?_,Jo c,?_⟩
    ·rw[if_neg e,getElem?_set_ne (Ne.symm e)];exact a
    ·rw[if_neg e];exact sm _ _ b
    ·rw[if_neg e];exact e'
variable {es:List Dat}
theorem GA.change(G:GA K af Av pn aC H σ Γ ad){ys:List V}(hi:Γ[i]?=some (some (.own ds)))(r:aB K H (bz Av Γ ad) ys es):
  GA K af Av pn aC (upd H (ad i) (.lst ys)) σ (Γ.set i (some (.own es))) ad:=by
 have dw:i<Γ.length:=f6 hi;have av:∀a,bz Av (Γ.set i (some (.own es))) ad a->bz Av Γ ad a:=by
  rintro a (z|⟨j,fs,e,m,q⟩)
  ·exact .inl z
  ·rcases aN e with⟨e1,_⟩|⟨e1,q1⟩
   ·subst e1;exact .inr ⟨j,_,hi,rfl,q⟩
   ·exact .inr ⟨j,fs,q1,m,q⟩
 have kp:lK H (bz Av Γ ad) (upd H (ad i) (.lst ys)) (bz Av (Γ.set i (some (.own es))) ad):=by
  intro b o h n;refine⟨?_,λz=>n (av b z)⟩;rw[bB λz=>n (.inr ⟨i,_,hi,rfl,z.symm⟩)];exact h
 obtain⟨Oa,g1,g2,g3,g4⟩:=G.own i ds hi;refine⟨λb o h=>?_,G.fH,by rw[length_set];exact G.len,λj d' h=>?_,λj fs h=>?_,λj l fs gs h1 h2 m1 m2 e=>?_,λp hp=>(G.aC p hp).mono kp,λa fs e h=>?_,λj O fs h=>?_⟩
 ·rw[bB (bp h g4)];exact G.same b o h
 ·rcases aN h with⟨e,q⟩|⟨e,q⟩
  ·cases q
  ·obtain⟨u,a,b⟩:=G.a8 j d' q;exact⟨u,a,b.mono kp⟩
 ·rcases aN h with⟨e,q⟩|⟨e,q⟩
  ·subst e;cases q;exact⟨ys,g1,dC,r.mono kp,g4⟩
  ·obtain⟨zs,a,b,c,e'⟩:=G.own j fs q;refine⟨zs,a,?_,c.mono kp,e'⟩;rw[bB λz=>e (G.Q1 j i fs ds q hi z)];exact b
 ·rcases aN h1 with⟨e1,q1⟩|⟨e1,q1⟩
  ·rcases aN h2 with⟨e2,q2⟩|⟨e2,q2⟩
   ·rw[e1,e2]
   ·subst e1;exact G.inj j l _ gs hi q2 rfl m2 e
  ·rcases aN h2 with⟨e2,q2⟩|⟨e2,q2⟩
   ·subst e2;exact G.inj j l fs _ q1 hi m1 rfl e
   ·exact G.inj j l fs gs q1 q2 m1 m2 e
 ·rcases aN h with⟨z,_⟩|⟨_,q⟩
  ·subst z;exact G.pin a ds e hi
  ·exact G.pin a fs e q
 ·rcases aN h with⟨e,q⟩|⟨e,q⟩
  ·cases q
  ·obtain⟨zs,a,b,c,e'⟩:=G.obj j O fs q;refine⟨zs,a,?_,c.mono kp,e'⟩;rw[bB λz=>e (G.inj j i _ _ q hi rfl rfl z)];exact b
theorem GA.hide(G:GA K af Av pn aC H σ Γ ad)(r:aS K H (bz Av Γ ad) v d):GA K af Av pn ((v,d)::aC) H σ Γ ad:=
 ⟨G.same,G.fH,G.len,G.a8,G.own,G.inj,λp hp=>by
  rcases mem_cons.mp hp with e|h
  ·subst e;exact r
  ·exact G.aC p h,G.pin,G.obj⟩
theorem GA.qi(G:GA K af Av pn ((v,d)::aC) H σ Γ ad):GA K af Av pn aC H σ Γ ad:=
 ⟨G.same,G.fH,G.len,G.a8,G.own,G.inj,λp hp=>G.aC p (mem_cons_of_mem _ hp),G.pin,G.obj⟩
inductive Fl where
 |nx (Γ:ar)|rt (d:Dat)|bk (Γ:ar)|ct (Γ:ar)|rm (d:Dat) (Γ:ar)
def JT (K:Fg) (af:Hp) (Av:dA) (pn:Option Addr) (aC:Hid) (D:Ends):Fl->Prop
 | .nx Γ=>∀σ H,kj K af Av pn aC H σ Γ->D.nx σ H
 | .rt d=>∀v H,aQ af H->aS K H Av v d->D.rt v H
 | .bk Γ=>∀σ H,kj K af Av pn aC H σ Γ->D.bk σ H
 | .ct Γ=>∀σ H,kj K af Av pn aC H σ Γ->D.ct σ H
 | .rm d Γ=>∀σ v H ad,GA K af Av pn aC H σ Γ ad->aS K H (bz Av Γ ad) v d->D.rt v H
def yN (K:Fg) (g:ar->Option Fl):TS:=λD σ H=>∃af Av pn aC Γ fl,kj K af Av pn aC H σ Γ/\g Γ=some fl/\JT K af Av pn aC D fl
abbrev V1 (X:Cx) (st:Stmt) (g:ar->Option Fl):Prop:=PS X st (yN X.K g)
abbrev Kk (X:Cx) (st:List Stmt) (g:ar->Option Fl):Prop:=lF X st (yN X.K g)
variable {st:Stmt}
theorem bM{t t':TS}(h:PS X st t)(m:∀D σ H,t' D σ H->t D σ H):PS X st t':=λpins s σ H D I q=>h pins s σ H D I (m D σ H q)
variable {rest:List Stmt} in
theorem zt{t t':TS}(h:lF X rest t)(m:∀D σ H,t' D σ H->t D σ H):lF X rest t':=λpins s σ H D I q=>h pins s σ H D I (m D σ H q)
def ir:ar->Option Fl:=λΓ=>some (.nx Γ)
variable {g2 g1:ar->Option Fl}
def cN (g1 g2:ar->Option Fl):ar->Option Fl:=λΓ=>(g1 Γ).bind λfl=>match fl with
 | .nx aj=>g2 aj
 | .rt d=>some (.rt d)
 | .bk aj=>some (.bk aj)
 | .ct aj=>some (.ct aj)
 | .rm d aj=>some (.rm d aj)
def lG (f:ax->Option Dat):ar->Option Fl:=λΓ=>(f (bE Γ)).map .rt
def iE (ft:ax->Option Bool) (g1 g2:ar->Option Fl):ar->Option Fl:=λΓ=>(ft (bE Γ)).bind λc=>if c=true then g1 Γ else g2 Γ
def pW:Dat->Bool
 | .none=>true| .bool _=>true| .int _=>true| .str _=>true
 |_=>false
theorem aS.sc(h:aS K H Av v d)(s:pW d=true):aS K H Av' v d:=by
 cases h with
 |bW=>exact .bW
 |bl b=>exact .bl b
 |int i=>exact .int i
 |str x=>exact .str x
 |tup _ _=>cases s
 |lst _ _=>cases s
def gB (i:Nat) (f:ax->Option Dat):ar->Option Fl:=λΓ=>match f (bG Γ)with
 |some d=>some (.nx (Γ.set i (some (.a8 d))))
 |none=>(f (bE Γ)).bind λd=>if pW d=true then some (.nx (Γ.set i (some (.a8 d))))else none
theorem Oo:∀D σ H,yN K (gB i f) D σ H->IM (tF K f) (Eo i) D σ H:=by
 rintro D σ H ⟨af,Av,pn,aC,Γ,fl,⟨ad,G⟩,hf,q⟩;unfold gB at hf;split at hf
 ·rename_i d e1;cases hf;exact⟨bz Av Γ ad,bG Γ,d,G.gu,G.jc,e1,λv H' s r=>q _ _ ⟨ad,(G.grow s).set i r⟩⟩
 ·obtain⟨d,e1,hf⟩:=bind_some hf;split at hf
  ·rename_i hs;cases hf;exact⟨Av,bE Γ,d,G.fH.same G.same,G.kS,e1,λv H' s r=>q _ _ ⟨ad,(G.grow s).set i (r.sc hs)⟩⟩
  ·cases hf
abbrev cI:=List (Nat×Dat)
inductive kW (K:Fg) (H:Hp) (Av:dA):List (Nat×V)->cI->Prop
 |nil:kW K H Av [] []
 |cons {i:Nat} {v:V} {d:Dat} {vs:List (Nat×V)} {ds:cI}:aS K H Av v d->kW K H Av vs ds->kW K H Av ((i,v)::vs) ((i,d)::ds)
def nQ (σ:L2.St) (ws:List (Nat×V)):L2.St:=ws.foldl (λσ p=>σ.set p.1 (some p.2)) σ
def setG (Γ:ar) (ws:cI):ar:=ws.foldl (λΓ p=>Γ.set p.1 (some (.a8 p.2))) Γ
def gQ (ρ:ax) (ws:cI):ax:=ws.foldl (λρ p=>ρ.set p.1 (some p.2)) ρ
theorem kW.append{K:Fg}{H:Hp}{Av:dA}:∀{a b:List (Nat×V)} {c d:cI},kW K H Av a c->kW K H Av b d->kW K H Av (a++b) (c++d)
 |_,_,_,_,.nil,s=>s
 |_,_,_,_,.cons h r,s=>.cons h (kW.append r s)
def fW (K:Fg) (gt:Dat->Option cI):TG:=λv σ H Q=>∃Av d as,aS K H Av v d/\gt d=some as/\∀ws,kW K H Av ws as->Q (nQ σ ws) H
def vO (K:Fg) (gt:List Dat->Option cI):qc:=λvs σ H Q=>∃Av ds as,aB K H Av vs ds/\gt ds=some as/\∀ws,kW K H Av ws as->Q (nQ σ ws) H
theorem w6{t t':TG}{tg:Expr}(h:PG X tg t)(m:∀v σ H Q,t' v σ H Q->t v σ H Q):PG X tg t':=λpins s σ H v u Q I r q=>h pins s σ H v u Q I r (m v σ H Q q)
theorem zy{t t':qc}{tg:List Expr}(h:vC X tg t)(m:∀v σ H Q,t' v σ H Q->t v σ H Q):vC X tg t':=λpins s σ H v u Q I r q=>h pins s σ H v u Q I r (m v σ H Q q)
def aName (i:Nat):Dat->Option cI:=λd=>some [(i,d)]
def jf:List Dat->Option cI:=λds=>match ds with|[]=>some []|_=>none
variable {g:ar->Option Fl} in
def cR (g:Dat->Option cI) (gs:List Dat->Option cI):List Dat->Option cI:=λds=>match ds with
 |[]=>none
 |d::r=>(g d).bind λa=>(gs r).map (a++·)
def je (n:Nat) (gs:List Dat->Option cI):Dat->Option cI:=λd=>match d with
 | .tuple ds=>if ds.length=n then gs ds else none
 |_=>none
variable {ws:List (Nat×V)} {as:cI}
theorem GA.fX{Tg:ar}{σ:L2.St}(h:kW K H (bz Av Tg ad) ws as)(hw:∀a,bz Av Γ ad a->bz Av Tg ad a)(G:GA K af Av pn aC H σ Γ ad):
  GA K af Av pn aC H (nQ σ ws) (setG Γ as) ad:=by
 induction h generalizing σ Γ with
 |nil=>exact G
 | @cons i v d vs ds h r ih=>exact ih (σ:=σ.set i (some v)) (Γ:=Γ.set i (some (.a8 d))) (λa z=>hw a (bz.fR a z)) (G.set i (h.weak hw))
def qw (gt:Dat->Option cI) (f:ax->Option Dat):ar->Option Fl:=λΓ=>(f (bG Γ)).bind λd=>(gt d).map λas=>.nx (setG Γ as)
open PySem PySem.Spec PyProof.Rows L2
open PySem.W (Dat)
def Q3 (K:Fg) (tl:TE):TI:=λσ H R=>tl σ H λx H1=>∃a,x=.ref a/\(((∃xs,fk K H1 a xs)/\R (RI K a) H1)\/((∃xs,j6 K H1 a xs)/\R (RH K a) H1))
variable {tg:Expr}
theorem oz{l:Expr}{tl:TE}(hl:PE X l tl):PI X tg l (Q3 X.K tl):=by
 intro pins s σ H R I h;refine cz (hl pins s σ H _ I h) λv s1 ⟨x,H1,I1,r1,q1⟩=>?_;obtain⟨a,e,q⟩:=q1;subst e;cases r1;rcases q with⟨⟨xs,hq⟩,q⟩|⟨⟨xs,hq⟩,q⟩
 ·obtain⟨aq,rv,p,hz⟩:=I1.list hq;refine wpAny_pyIter_list p.isList ?_;refine⟨s1.heap.objs.size,[s1.heap.objs.size],_,_,H1,rfl,I1.kept (t':=s1.toks) λb o e=>get?_push_of_some _ e,Fz a _,⟨_,get?_push_size _ rfl,rfl,rfl⟩,λb hb=>?_,q⟩;have e:b=s1.heap.objs.size:=by simpa using hb
  subst e;exact I1.Aw (le_refl _) (I1.bR.fresh (le_refl _))
 ·obtain⟨aq,rv,p,hz⟩:=I1.tuple hq;refine wpAny_pyIter_tuple (show s1.heap.IsTuple a aq.toArray from p) ?_;refine⟨s1.heap.objs.size,[s1.heap.objs.size],_,_,H1,rfl,I1.kept (t':=s1.toks) λb o e=>get?_push_of_some _ e,Dw a _,⟨_,get?_push_size _ rfl,rfl,rfl⟩,λb hb=>?_,q⟩;have e:b=s1.heap.objs.size:=by simpa using hb
  subst e;exact I1.Aw (le_refl _) (I1.bR.fresh (le_refl _))
def dE:Dat->Option (List Dat)
 | .list ds=>some ds
 | .tuple ds=>some ds
 |_=>none
def Over (K:Fg) (J:It) (x:V) (d:Dat) (ds:List Dat):Prop:=∀(i:Nat) (H:Hp) (Av:dA),aS K H Av x d->(ds.length<=i->J.stop i H)/\(∀di,ds[i]?=some di->J.go i H/\∀y H',J.sQ i H y H'->H'=H/\aS K H Av y di)
theorem nt{a:Addr}:Over K (RI K a) (.ref a) (.list ds) ds:=by
 intro i H Av r;obtain⟨b,xs,e,hq,rs⟩:=r.fq;cases e;refine⟨λh=>⟨xs,hq.sq,by rw[rs.length];exact h⟩,λdi hd=>?_⟩;obtain⟨v,hv,rv⟩:=rs.get hd;refine⟨⟨xs,v,hq.sq,hv⟩,λy H' hy=>?_⟩;obtain⟨e,hy⟩:=hy;have:=hy xs hq.sq;rw[hv]at this;cases this;exact⟨e,rv⟩
theorem pf{a:Addr}:Over K (RH K a) (.ref a) (.tuple ds) ds:=by
 intro i H Av r;obtain⟨b,xs,e,hq,rs⟩:=r.ff;cases e;refine⟨λh=>⟨xs,hq.sq,by rw[rs.length];exact h⟩,λdi hd=>?_⟩;obtain⟨v,hv,rv⟩:=rs.get hd;refine⟨⟨xs,v,hq.sq,hv⟩,λy H' hy=>?_⟩;obtain⟨e,hy⟩:=hy;have:=hy xs hq.sq;rw[hv]at this;cases this;exact⟨e,rv⟩
theorem drop_cons{l:List α}{a:α}(h:l[i]?=some a):l.drop i=a::l.drop (i+1):=by
 obtain⟨hl,e⟩:=List.getElem?_eq_some_iff.mp h;rw[List.drop_eq_getElem_cons hl,e]
def forL (gt:Dat->Option cI) (gb:ar->Option Fl):List Dat->ar->Option Fl
 |[],Γ=>some (.nx Γ)
 |d::r,Γ=>(gt d).bind λas=>(gb (setG Γ as)).bind λfl=>match fl with
  | .nx aj=>forL gt gb r aj
  | .ct aj=>forL gt gb r aj
  | .bk aj=>some (.nx aj)
  | .rt v=>some (.rt v)
  | .rm v aj=>some (.rm v aj)
def vV (gt:Dat->Option cI) (gb:ar->Option Fl) (f:ax->Option Dat):ar->Option Fl:=λΓ=>(f (bG Γ)).bind λd=>(dE d).bind λds=>forL gt gb ds Γ
variable {gt:Dat->Option cI} {gb:ar->Option Fl} {J:It} {H1:Hp}
theorem qV{D:Ends}{x:V}{σ:L2.St}{fl:Fl}(ov:Over K J x d ds)(G:kj K af Av pn ((x,d)::aC) H1 σ Γ)(hf:forL gt gb ds Γ=some fl)(q:JT K af Av pn aC D fl):
  ∃W:Nat->Nat->L2.St->Hp->Prop,(∃m,W 0 m σ H1)/\∀i m σ H,W i m σ H->
   (J.stop i H/\D.nx σ H)\/(J.go i H/\∃N:L2.St->Hp->Prop,(∀bJ H',N bJ H'->∃m',m'<m/\W (i+1) m' bJ H')/\∀x H',J.sQ i H x H'->fW K gt x σ H' λcP H2=>yN K gb {D with nx:=N,ct:=N,bk:=D.nx} cP H2):=by
 refine⟨λi m σ H=>m=ds.length-i/\i<=ds.length/\∃Γ,kj K af Av pn ((x,d)::aC) H σ Γ/\forL gt gb (ds.drop i) Γ=some fl,⟨_,rfl,zero_le _,Γ,G,by rw[drop_zero];exact hf⟩,?_⟩;rintro i m σ H ⟨rfl,hi,Γ,⟨ad,G⟩,hf⟩;have rx:=G.aC (x,d) mem_cons_self;cases gf:ds[i]? with
 |none=>
  have hl:ds.length<=i:=List.getElem?_eq_none_iff.mp gf;rw[drop_eq_nil_of_le hl]at hf;cases hf;exact .inl ⟨(ov i H _ rx).1 hl,q σ H ⟨ad,G.qi⟩⟩
 |some di=>
  have dw:=f6 gf;rw[drop_cons gf]at hf;obtain⟨as,e1,hf⟩:=bind_some (show(gt di).bind _=some fl from hf);obtain⟨nC,e2,hf⟩:=bind_some hf;obtain⟨go,yl⟩:=(ov i H _ rx).2 di gf;refine .inr ⟨go,λbJ H'=>∃aj,kj K af Av pn ((x,d)::aC) H' bJ aj/\forL gt gb (ds.drop (i+1)) aj=some fl,λbJ H' ⟨aj,G',h'⟩=>⟨ds.length-(i+1),by omega,rfl,by omega,aj,G',h'⟩,λy H' hy=>?_⟩;obtain⟨eH,ry⟩:=yl y H' hy;subst eH;refine⟨bz Av Γ ad,di,as,ry,e1,λws hw=>⟨af,Av,pn,(x,d)::aC,setG Γ as,nC,⟨ad,GA.fX hw (λ_ z=>z) G⟩,e2,?_⟩⟩;cases nC with
  |nx aj=>exact λcP H2 G2=>⟨aj,G2,hf⟩
  |ct aj=>exact λcP H2 G2=>⟨aj,G2,hf⟩
  |bk aj=>cases hf;exact λcP H2 ⟨lT,G2⟩=>q cP H2 ⟨lT,G2.qi⟩
  |rt v=>cases hf;exact q
  |rm v aj=>cases hf;exact λcP v2 H2 lT G2 r2=>q cP v2 H2 lT G2.qi r2
def jt (lo:Int) (n:Nat):List Dat:=(List.range n).map fun(i:Nat)=>Dat.int (lo+(i:Int))
theorem tG{lo:Int}{di:Dat}(h:(jt lo n)[i]?=some di):i<n/\di=.int (lo+(i:Int)):=by
 unfold jt at h;rw[getElem?_map]at h;cases e:(List.range n)[i]? with
 |none=>rw[e]at h;cases h
 |some k=>
  rw[e]at h;cases h;obtain⟨hl,e2⟩:=List.getElem?_eq_some_iff.mp e;rw[length_range]at hl;rw[List.getElem_range]at e2;subst e2;exact⟨hl,rfl⟩
theorem ph{lo:Int}:Over K (M5 lo n) .bW .none (jt lo n):=by
 intro i H Av _;refine⟨λh=>?_,λdi hd=>?_⟩
 ·have:(jt lo n).length=n:=by unfold jt;rw[length_map,length_range]
  show n<=i;omega
 ·obtain⟨hl,e⟩:=tG hd;refine⟨hl,λy H' hy=>?_⟩;obtain⟨e1,e2⟩:=hy;subst e2;rw[e];exact⟨e1,.int _⟩
def iF:List Dat->Option (List Dat)
 |[.int j]=>if -(2^62)<=j/\j<2^62 then some (jt 0 j.toNat)else none
 |_=>none
variable {fs:ax->Option (List Dat)} in
def uG (rg:List Dat->Option (List Dat)) (gt:Dat->Option cI) (gb:ar->Option Fl) (fs:ax->Option (List Dat)):ar->Option Fl:=λΓ=>(fs (bE Γ)).bind λas=>(rg as).bind λds=>forL gt gb ds Γ
theorem aB.dD(h:aB K H Av vs [d]):∃v,vs=[v]/\aS K H Av v d:=by
 cases h with|cons a r=>cases r;exact⟨_,rfl,a⟩
variable {e:Dat}
theorem aB.gy(h:aB K H Av vs [d,e]):∃v u,vs=[v,u]/\aS K H Av v d/\aS K H Av u e:=by
 cases h with|cons a r=>obtain⟨u,rfl,b⟩:=r.dD;exact⟨_,u,rfl,a,b⟩
def fB (ft:ax->Option Bool) (gb:ar->Option Fl):Nat->ar->Option Fl
 |0,_=>none
 |n+1,Γ=>(ft (bE Γ)).bind λc=>if c=true then(gb Γ).bind λfl=>match fl with
   | .nx aj=>fB ft gb n aj
   | .ct aj=>fB ft gb n aj
   | .bk aj=>some (.nx aj)
   | .rt v=>some (.rt v)
   | .rm v aj=>some (.rm v aj)
  else some (.nx Γ)
def mG (fuel:ar->Nat) (ft:ax->Option Bool) (gb:ar->Option Fl):ar->Option Fl:=λΓ=>fB ft gb (fuel Γ) Γ
def ko (K:Fg) (f:ax->Option (List Dat)):TE:=λσ H Q=>∃Av ρ ds,fJ H Av/\dS K H Av σ ρ/\f ρ=some ds/\∀H1 p xs,aQ H H1->H1 p=none->aB K H1 Av xs ds->Q (.ref p) (upd H1 p (.lst xs))
def gd {α:Type} (c:Prop) [Decidable c] (o:Option α):Option α:=if c then o else none
theorem wx{c:Prop}[Decidable c]{o:Option α}{a:α}(h:gd c o=some a):c/\o=some a:=by
 unfold gd at h;split at h
 ·rename_i hc;exact⟨hc,h⟩
 ·cases h
variable {fs:ax->Option (List Dat)} in
def oJ (fs:ax->Option (List Dat)):ax->Option (List Dat):=λρ=>(fs ρ).bind λds=>gd (ds.length<=sizeLine) (some ds)
def oZ (i:Nat) (f:ax->Option (List Dat)):ar->Option Fl:=λΓ=>(f (bG Γ)).map λds=>.nx (Γ.set i (some (.own ds)))
def tE (i:Nat) (f:ax->Option Dat):ar->Option Fl:=λΓ=>match Γ[i]? with
 |some (some (.own ds))=>(f (bG Γ)).bind λd=>gd (ds.length<sizeLine) (some (.nx (Γ.set i (some (.own (ds++[d]))))))
 |_=>none
def cy (N:List Str) (ds:List Dat):ar:=ds.map (λd=>some (.a8 d))++List.replicate (N.length-ds.length) none
variable {g:ar->Option Fl} in
def jq (N:List Str) (g:ar->Option Fl):List Dat->Option Dat:=λds=>match g (cy N ds)with
 |some (.rt d)=>some d
 |some (.nx _)=>some .none
 |_=>none
variable {N:List Str}
theorem tY(hA:fJ H Av)(r:aB K H Av vs ds)(hl:ds.length<=N.length):kj K H Av none [] H (start N vs) (cy N ds):=by
 have pB:∀(i:Nat) (s:Slot),(cy N ds)[i]?=some (some s)->s.mt=false:=λi s h=>by
  unfold cy at h;by_cases hi:i<ds.length
  ·rw[getElem?_append_left (by rw[length_map];exact hi),getElem?_map,getElem?_eq_getElem hi]at h;cases h;rfl
  ·rw[getElem?_append_right (by rw[length_map];omega),getElem?_replicate]at h;split at h<;>cases h
 refine⟨λ_=>0,aQ.refl H,hA,?_,λi d h=>?_,λi es h=>absurd (pB i _ h) (by simp[Slot.mt]),λi j s _ h _ m=>absurd (pB i s h) (by rw[m];decide),λp hp=>absurd hp (by simp),λa es e=>(by cases e),λi O es h=>absurd (pB i _ h) (by simp[Slot.mt])⟩
 ·unfold L2.start cy;rw[length_append,length_append,length_map,length_map,length_replicate,length_replicate,r.length]
 ·unfold cy at h;by_cases hi:i<ds.length
  ·rw[getElem?_append_left (by rw[length_map];exact hi),getElem?_map,getElem?_eq_getElem hi]at h;cases h;obtain⟨v,hv,rv⟩:=r.get (getElem?_eq_getElem hi);refine⟨v,?_,rv.weak ?_⟩
   ·unfold L2.start;rw[getElem?_append_left (by rw[length_map,r.length];exact hi),getElem?_map,hv];rfl
   ·rintro a (z|⟨j,s,e,m,_⟩)
    ·exact z
    ·exact absurd (pB j s e) (by rw[m];decide)
  ·rw[getElem?_append_right (by rw[length_map];omega),getElem?_replicate]at h;split at h<;>cases h
variable {qual:Str} {fa:Addr} {fd:FuncData}
theorem T2{k:Nat}{g:ar->Option Fl}(U:nI K x qual st fa fd)(hm:mg x=some (.ref fa))(hB:Binds K fd ps [])(S:fV N ps (aW st))(hn:ps.length=n)(hbody:∀(bC:Value) (A:Around) (outer:List Env) (s:Shared) (H:Hp) (E:XK),cg k (A.deeper (envOfC qual (aW st) s.heap.objs.size fa bC))->Kk (gY gO P w K mg base N qual (aW st) fa bC A outer s H E).ly (df st) g)(hF:∀ds d,ds.length=n->F ds=some d->jq N g ds=some d):Dn P w K mg base (k+1) x ps n F:=by
 have dJ:ps.length<=N.length:=by have:=congrArg List.length S.pre;rw[length_take]at this;omega
 refine⟨fa,fd,U.ok S (λvs H Q E h=>?_) (λbC A outer s H vs Q E hr h=>?_),hm,U.kp,hB⟩
 ·obtain⟨Av,ds,d,_,r,hl,_⟩:=h;rw[r.length,hl,hn]
 ·obtain⟨Av,ds,d,hA,r,hl,hd,q⟩:=h;have dM:=hF ds d hl hd;unfold jq at dM;refine⟨_,hbody bC A outer s H E hr,?_⟩;cases hg:g (cy N ds)with
  |none=>rw[hg]at dM;cases dM
  |some fl=>
   refine⟨H,Av,none,[],cy N ds,fl,tY hA r (by omega),hg,?_⟩;rw[hg]at dM;cases fl with
   |nx Γ=>cases dM;exact λbJ H' ⟨ad,G⟩=>q _ H' G.same .bW
   |rt d'=>cases dM;exact λv H' s r=>q v H' s r
   |bk Γ=>cases dM
   |ct Γ=>cases dM
   |rm d' Γ=>cases dM
open PySem PySem.Spec PyProof.Rows L2
open PySem.W (Dat kqdOk kqdP kqdPs kqd_lay kqd_eqv)
def kf (d e:Dat):Bool:=@decide (d=e) (Classical.propDecidable _)
theorem AS:kf d e=true↔d=e:=@decide_eq_true_iff _ (Classical.propDecidable _)
theorem mV(h:d=e):kf d e=true:=AS.mpr h
theorem oM(h:d≠e):kf d e=false:=Bool.eq_false_iff.mpr λz=>h (AS.mp z)
def iD (C:Int->Int->Prop) (g:Int->Int->Dat):Dat->Dat->Option Dat:=open Classical in λx y=>match x,y with
 | .int i,.int j=>if C i j then some (g i j)else none
 |_,_=>none
variable {C:Int->Int->Prop}
theorem gw{g:Int->Int->Dat}{i j:Int}(h:C i j):iD C g (.int i) (.int j)=some (g i j):=by
 unfold iD;exact if_pos h
theorem GX{g:Int->Int->Dat}{x y:Dat}(h:iD C g x y=some d):∃i j,x=.int i/\y=.int j/\C i j/\d=g i j:=by
 unfold iD at h;split at h
 ·split at h
  ·rename_i i j hc;cases h;exact⟨i,j,rfl,rfl,hc,rfl⟩
  ·cases h
 ·cases h
theorem pA{g:Int->Int->Int}:kh K (rI C λi j=>.int (g i j)) (iD C λi j=>.int (g i j)):=by
 intro H Av x y dx dy d Q hA rx ry h q;obtain⟨i,j,rfl,rfl,hc,rfl⟩:=GX h;exact⟨i,j,rx.d7,ry.d7,hc,q _ H (aQ.refl H) (.int _)⟩
theorem sf{g:Int->Int->Bool}:kh K (xk λi j=>.bl (g i j)) (iD (λ_ _=>True) λi j=>.bool (g i j)):=by
 intro H Av x y dx dy d Q hA rx ry h q;obtain⟨i,j,rfl,rfl,hc,rfl⟩:=GX h;exact⟨i,j,rx.d7,ry.d7,q _ H (aQ.refl H) (.bl _)⟩
def kU:Dat->Dat->Option Dat
 | .int i,.int j=>some (.int (i+j))
 | .str x,.str y=>if x.length+y.length<=sizeLine then some (.str (x++y))else none
 |_,_=>none
def RZ (_ _:Int):Prop:=True
def Ma (_ j:Int):Prop:=j≠0
theorem Ce:dO X (binaryOp .Sub) (rI RZ λi j=>.int (i-j)):=KY λ_ _ _ _ _ _ _ _ q=>sub_int q
theorem Cf:dO X (binaryOp .Mult) (rI IntMulOk λi j=>.int (i*j)):=KY λ_ _ _ _ _ _ _ hc q=>mul_int q hc
theorem Jk:dO X (binaryOp .Mod) (rI Ma λi j=>.int (i.fmod j)):=KY λ_ _ _ _ _ _ _ hc q=>mod_int' hc q
abbrev DA:Dat->Dat->Option Dat:=iD RZ λi j=>.int (i-j)
abbrev iM:Dat->Dat->Option Dat:=iD IntMulOk λi j=>.int (i*j)
abbrev zN:Dat->Dat->Option Dat:=iD Ma λi j=>.int (i.fmod j)
abbrev J9:Dat->Dat->Option Dat:=iD F5 λi j=>.int (i^j.toNat)
abbrev L5:Dat->Dat->Option Dat:=iD (λ_ _=>True) λi j=>.bool (decide (i<j))
abbrev TZ:Dat->Dat->Option Dat:=iD (λ_ _=>True) λi j=>.bool (decide (i<=j))
abbrev CK:Dat->Dat->Option Dat:=iD (λ_ _=>True) λi j=>.bool (decide (j<i))
abbrev UC:Dat->Dat->Option Dat:=iD (λ_ _=>True) λi j=>.bool (decide (j<=i))
def nW:Dat->Option Dat
 | .int i=>some (.int (-i))
 |_=>none
mutual
theorem aS.reads{pins:List (Addr×Obj)}{σ:L2.St}{H:Hp}{s:Shared}{Av:dA}(I:Inv X pins σ H s):∀{v:V} {d:Dat} (n:Nat),aS X.K H Av v d->kqdOk n d=true->∀u,RelV v u->∃as,Reads s.heap u (kqdP d) as
 |_,_,n,.bW,_,u,r=>by cases(show u=Value.none from r);rw[kqdP];exact⟨_,.none⟩
 |_,_,n,.bl b,_,u,r=>by cases(show u=Value.bool b from r);rw[kqdP];exact⟨_,.bool b⟩
 |_,_,n,.int i,_,u,r=>by obtain⟨t,q⟩:=(show ∃t,u=Value.int i t from r);subst q;rw[kqdP];exact⟨_,.int i t⟩
 |_,_,n,.str x,_,u,r=>by obtain⟨t,q⟩:=(show ∃t,u=Value.str x t from r);subst q;rw[kqdP];exact⟨_,.str x t⟩
 |_,_,0,.tup _ _,hk,_,_=>by simp[kqdOk]at hk
 |_,_,0,.lst _ _,hk,_,_=>by simp[kqdOk]at hk
 |_,_,n+1,.tup (a:=a) hq rs,hk,u,r=>by
  cases(show u=Value.ref a from r);obtain⟨aq,rv,⟨o,h1,h2,m,h3⟩,_⟩:=I.tuple hq.sq;obtain⟨as,q⟩:=aB.reads I n rs (by simpa [kqdOk]using hk) aq rv;rw[kqdP];exact⟨as,.tuple h1 h2 h3 (by simpa using q)⟩
 |_,_,n+1,.lst (a:=a) hq rs,hk,u,r=>by
  cases(show u=Value.ref a from r);obtain⟨aq,rv,⟨o,m,h1,h2,_,h3⟩,_⟩:=I.list hq.sq;obtain⟨as,q⟩:=aB.reads I n rs (by simpa [kqdOk]using hk) aq rv;rw[kqdP];exact⟨_,.list h1 h2 h3 (by simpa using q)⟩
theorem aB.reads {pins:List (Addr×Obj)} {σ:L2.St} {H:Hp} {s:Shared} {Av:dA} (I:Inv X pins σ H s):∀{vs:List V} {ds:List Dat} (n:Nat),aB X.K H Av vs ds->(∀d∈ds,kqdOk n d=true)->∀us,Vals vs us->∃as,ReadsAll s.heap us (kqdPs ds) as
 |_,_,n,.nil,_,us,r=>by cases r;rw[kqdPs];exact⟨_,.nil⟩
 |_,_,n,.cons h t,hk,us,r=>by
  cases r with
  |cons r1 r2=>
   obtain⟨as,q⟩:=aS.reads I n h (hk _ (.head _)) _ r1;obtain⟨bs,p⟩:=aB.reads I n t (λd hm=>hk d (.tail _ hm)) _ r2;rw[kqdPs];exact⟨_,.cons q p⟩
end
theorem sD(d e:Dat)(h1:kqdOk 9 d=true)(h2:kqdOk 9 e=true):PyData.eqv (kqdP d) (kqdP e)=(kf d e):=by
 have q:=kqd_eqv 9 d e 9 h1 h2;by_cases hq:d=e
 ·rw[mV hq];exact q.mpr hq
 ·rw[oM hq];exact Bool.eq_false_iff.mpr λx=>hq (q.mp x)
theorem jB(d:Dat)(h:kqdOk 9 d=true):SeqAt.shaped (kqdP d)=true:=by
 have l:=kqd_lay 9 d h;unfold SeqAt.shaped;rw[l.1,Bool.true_and];exact decide_eq_true (le_trans l.2 (by decide))
variable {e:Expr}
def OQ (K:Fg):R2:=λx y H Q=>∃Av d e,aS K H Av x d/\aS K H Av y e/\kqdOk 9 d=true/\kqdOk 9 e=true/\Q (.bl (kf d e)) H
def OM (K:Fg):R2:=λx y H Q=>∃Av d e,aS K H Av x d/\aS K H Av y e/\kqdOk 9 d=true/\kqdOk 9 e=true/\Q (.bl (!(kf d e))) H
theorem uM(hu:X.A.units+64<cLine):dO X (compareOp .Eq) (OQ X.K):=by
 intro pins s σ H x y v u Q I rx ry h;obtain⟨Av,d,e,r1,r2,k1,k2,q⟩:=h;obtain⟨as,ra⟩:=r1.reads I 9 k1 v rx;obtain⟨bs,rb⟩:=r2.reads I 9 k2 u ry;exact eq_dataH ra rb (jB d k1) (jB e k2) hu ⟨.bl _,H,I,by rw[sD d e k1 k2];rfl,q⟩
theorem Gq(hu:X.A.units+64<cLine):dO X (compareOp .NotEq) (OM X.K):=by
 intro pins s σ H x y v u Q I rx ry h;obtain⟨Av,d,e,r1,r2,k1,k2,q⟩:=h;obtain⟨as,ra⟩:=r1.reads I 9 k1 v rx;obtain⟨bs,rb⟩:=r2.reads I 9 k2 u ry;exact ne_dataH ra rb (jB d k1) (jB e k2) hu ⟨.bl _,H,I,by rw[sD d e k1 k2];rfl,q⟩
def eqB:Dat->Dat->Option Bool:=open Classical in λx y=>match x,y with
 | .bool a,.bool b=>some (a==b)
 | .str a,.str b=>some (decide (a=b))
 |d,e=>if kqdOk 9 d=true/\kqdOk 9 e=true then some (kf d e)else none
def gi:Dat->Dat->Option Dat:=λx y=>(eqB x y).map .bool
def ix:Dat->Dat->Option Dat:=λx y=>(eqB x y).map λk=>.bool (!k)
theorem xO{x y:Dat}{k:Bool}(h:eqB x y=some k):(∃a b,x=.bool a/\y=.bool b/\k=(a==b))\/(∃a b,x=.str a/\y=.str b/\k=decide (a=b))\/(kqdOk 9 x=true/\kqdOk 9 y=true/\k=(kf x y)):=by
 unfold eqB at h;split at h
 ·cases h;exact .inl ⟨_,_,rfl,rfl,rfl⟩
 ·cases h;exact .inr (.inl ⟨_,_,rfl,rfl,by congr⟩)
 ·split at h
  ·rename_i hk;cases h;exact .inr (.inr ⟨hk.1,hk.2,rfl⟩)
  ·cases h
theorem uN:kh K (λx y H Q=>Tw x y H Q\/OQ K x y H Q) gi:=by
 intro H Av x y dx dy d Q hA rx ry h q;obtain⟨k,e1,rfl⟩:=aT h;rcases xO e1 with⟨a,b,rfl,rfl,rfl⟩|⟨a,b,rfl,rfl,rfl⟩|⟨k1,k2,rfl⟩
 ·rw[rx.kg,ry.kg];exact .inl ⟨rfl,by rw[vm];exact q _ H (aQ.refl H) (.bl _)⟩
 ·rw[rx.iq,ry.iq];exact .inl ⟨rfl,by
   have:decide (V.str a=V.str b)=decide (a=b):=by simp
   rw[this];exact q _ H (aQ.refl H) (.bl _)⟩
 ·exact .inr ⟨Av,dx,dy,rx,ry,k1,k2,q _ H (aQ.refl H) (.bl _)⟩
theorem Gw:kh K (λx y H Q=>Tu x y H Q\/OM K x y H Q) ix:=by
 intro H Av x y dx dy d Q hA rx ry h q;obtain⟨k,e1,rfl⟩:=aT h;rcases xO e1 with⟨a,b,rfl,rfl,rfl⟩|⟨a,b,rfl,rfl,rfl⟩|⟨k1,k2,rfl⟩
 ·rw[rx.kg,ry.kg];exact .inl ⟨rfl,by rw[vm];exact q _ H (aQ.refl H) (.bl _)⟩
 ·rw[rx.iq,ry.iq];exact .inl ⟨rfl,by
   have:decide (V.str a=V.str b)=decide (a=b):=by simp
   rw[this];exact q _ H (aQ.refl H) (.bl _)⟩
 ·exact .inr ⟨Av,dx,dy,rx,ry,k1,k2,q _ H (aQ.refl H) (.bl _)⟩
def EF:List Dat->Option Dat
 |[.int i]=>some (.int (if i<0 then -i else i))
 |_=>none
theorem Ik:pV K (λxs H Q=>∃i,xs=[.int i]/\Q (.int (if i<0 then -i else i)) H) EF:=by
 intro H Av xs ds d Q hA r h q;unfold EF at h;split at h
 ·cases h;obtain⟨v,rfl,rv⟩:=r.dD;rw[rv.d7];exact⟨_,rfl,q _ H (aQ.refl H) (.int _)⟩
 ·cases h
def intD:List Dat->Option Dat
 |[.int i]=>some (.int i)
 |[.bool k]=>some (.int (if k then 1 else 0))
 |_=>none
theorem Ij:pV K (λxs H Q=>(∃i,xs=[.int i]/\Q (.int i) H)\/∃k,xs=[.bl k]/\Q (.int (if k then 1 else 0)) H) intD:=by
 intro H Av xs ds d Q hA r h q;unfold intD at h;split at h
 ·cases h;obtain⟨v,rfl,rv⟩:=r.dD;rw[rv.d7];exact .inl ⟨_,rfl,q _ H (aQ.refl H) (.int _)⟩
 ·cases h;obtain⟨v,rfl,rv⟩:=r.dD;rw[rv.kg];exact .inr ⟨_,rfl,q _ H (aQ.refl H) (.int _)⟩
 ·cases h
def j9:List Dat->Option Dat
 |[.str z]=>if z.length<=sizeLine then some (.int z.length)else none
 |[.list ds]=>some (.int ds.length)
 |[.tuple ds]=>some (.int ds.length)
 |_=>none
theorem Ii:pV K (λxs H Q=>∃x n,xs=[x]/\RG K x H n/\Q (.int n) H) j9:=by
 intro H Av xs ds d Q hA r h q;unfold j9 at h;split at h
 ·split at h
  ·rename_i hz;cases h;obtain⟨v,rfl,rv⟩:=r.dD;rw[rv.iq];exact⟨_,_,rfl,⟨hz,rfl⟩,q _ H (aQ.refl H) (.int _)⟩
  ·cases h
 ·cases h;obtain⟨v,rfl,rv⟩:=r.dD;obtain⟨a,ys,rfl,hq,rs⟩:=rv.fq;exact⟨_,_,rfl,.inl ⟨ys,hq.sq,rfl⟩,by rw[rs.length];exact q _ H (aQ.refl H) (.int _)⟩
 ·cases h;obtain⟨v,rfl,rv⟩:=r.dD;obtain⟨a,ys,rfl,hq,rs⟩:=rv.ff;exact⟨_,_,rfl,.inr ⟨ys,hq.sq,rfl⟩,by rw[rs.length];exact q _ H (aQ.refl H) (.int _)⟩
 ·cases h
def Oh:Dat->Option String
 | .none=>some "NoneType"| .bool _=>some "bool"| .int _=>some "int"| .str _=>some "str"| .tuple _=>some "tuple"| .list _=>some "list"
 | .bytes _=>none
theorem my(K:Fg)(t T:String)(ht:t∈["NoneType","bool","int","str","tuple","list"])(hT:T∈["bool","int","str","tuple","list"]):PySem.W.kitOne K (.type t) (.type T)=some (decide (t=T) || (decide (t="bool")&&decide (T="int"))):=by
 simp only[mem_cons,not_mem_nil,or_false]at ht hT;rcases ht with rfl|rfl|rfl|rfl|rfl|rfl<;>rcases hT with rfl|rfl|rfl|rfl|rfl<;>rfl
def oD (T:String):Dat->Option Dat:=λd=>(Oh d).bind λt=>if T∈["bool","int","str","tuple","list"]then some (.bool (decide (t=T) || (decide (t="bool")&&decide (T="int"))))else none
theorem Bs(T:String):km X (.builtin "isinstance") (λxs H Q=>∃Av x d dd,xs=[x,.ty T]/\aS X.K H Av x d/\oD T d=some (.bool dd)/\Q (.bl dd) H):=by
 intro pins s σ H xs us Q I r h;obtain⟨Av,x,d,dd,rfl,rd,hi,q⟩:=h;obtain⟨u,t,rfl,ru,rt⟩:=vals2 r;cases(show t=Value.type T from rt);obtain⟨ty,e1,hi⟩:=bind_some (show(Oh d).bind _=some (Dat.bool dd)from hi);split at hi
 ·rename_i hT;have gN:=(Option.some.inj hi).symm;injection gN with wt;have fin:∀tk,EP X pins σ Q (.bool dd) {s with toks:=tk}:=λtk=>⟨.bl dd,H,I.tok tk,rfl,q⟩;cases rd with
  |bW=>cases e1;cases(show u=Value.none from ru);exact kia_one PySem.W.kitx_none I.pY True.intro (by rw[my _ _ _ (by simp) hT,wt]) (λz=>nomatch z) fin
  |bl y=>cases e1;cases(show u=Value.bool y from ru);exact kia_one PySem.W.kitx_bool I.pY True.intro (by rw[my _ _ _ (by simp) hT,wt]) (λz=>nomatch z) fin
  |int i=>cases e1;obtain⟨t,z⟩:=(show ∃t,u=Value.int i t from ru);cases z;exact kia_one PySem.W.kitx_int I.pY True.intro (by rw[my _ _ _ (by simp) hT,wt]) (λz=>nomatch z) fin
  |str y=>cases e1;obtain⟨t,z⟩:=(show ∃t,u=Value.str y t from ru);cases z;exact kia_one PySem.W.kitx_str I.pY True.intro (by rw[my _ _ _ (by simp) hT,wt]) (λz=>nomatch z) fin
  | @lst a xs ds hq rs=>
   cases e1;cases(show u=Value.ref a from ru);obtain⟨aq,_,⟨o,m,h1,h2,_⟩,_⟩:=I.list hq.sq;exact kia_one PySem.W.kitx_list I.pY ⟨o,h1,h2⟩ (by rw[my _ _ _ (by simp) hT,wt]) (λz=>nomatch z) fin
  | @tup a xs ds hq rs=>
   cases e1;cases(show u=Value.ref a from ru);obtain⟨aq,_,⟨o,h1,h2,_⟩,_⟩:=I.tuple hq.sq;exact kia_one PySem.W.kitx_tuple I.pY ⟨o,h1,h2⟩ (by rw[my _ _ _ (by simp) hT,wt]) (λz=>nomatch z) fin
 ·cases hi
theorem JE{T:String}{r:Dat}(h:oD T d=some r):∃k,r=.bool k:=by
 obtain⟨t,e1,h⟩:=bind_some (show(Oh d).bind _=some r from h);split at h
 ·cases h;exact⟨_,rfl⟩
 ·cases h
def bf:Dat->Dat->Option Dat:=λx y=>match x,y with
 | .list ds,.int i=>gH ds i
 | .tuple ds,.int i=>gH ds i
 |_,_=>none
theorem aB.gH{i:Int}(r:aB K H Av vs ds)(h:L2.gH ds i=some d):∃v,L2.gH vs i=some v/\aS K H Av v d:=by
 unfold L2.gH at h ⊢;rw[r.length];obtain⟨j,e1,h⟩:=bind_some h;obtain⟨v,hv,rv⟩:=r.get h;exact⟨v,by rw[e1];exact hv,rv⟩
def cutD (ds:List Dat) (lo hi:Option Int):List Dat:=(ds.drop (HT.cw ds.length 0 lo)).take (HT.cw ds.length ds.length hi-HT.cw ds.length 0 lo)
def Tj (K:Fg) (f:ax->Option (Option Int)):TO:=λσ H Q=>∃Av ρ o,fJ H Av/\dS K H Av σ ρ/\f ρ=some o/\∀H',aQ H H'->Q o H'
abbrev V5 (X:Cx) (e:Option Expr) (f:ax->Option (Option Int)):Prop:=PO X e (Tj X.K f)
theorem Cb{o:Option Expr}{t t':TO}(h:PO X o t)(m:∀σ H Q,t' σ H Q->t σ H Q):PO X o t':=λpins s σ H Q I q=>h pins s σ H Q I (m σ H Q q)
def rA:Dat->Option Int
 | .int i=>some i
 |_=>none
theorem B3{b:Int}(h:rA d=some b):d=.int b:=by
 cases d<;>first|(cases h;done)|(simp only[rA,Option.some.injEq]at h;rw[h])
def jW:ax->Option (Option Int):=λ_=>some none
def jV (f:ax->Option Dat):ax->Option (Option Int):=λρ=>(f ρ).bind λd=>(rA d).map some
def dh (aD:List (Option Nat)) (ρ:ax):ax:=aD.map λo=>o.bind λj=>(ρ[j]?).join
def bT (gt:Dat->Option cI) (ft:ax->Option Bool) (fe:ax->Option Dat) (ik:ax):List Dat->Option (List Dat)
 |[]=>some []
 |d::r=>(gt d).bind λas=>(ft (gQ ik as)).bind λc=>if c=true then(fe (gQ ik as)).bind λv=>(bT gt ft fe ik r).map (v::·)else bT gt ft fe ik r
def kc (aD:List (Option Nat)) (gt:Dat->Option cI) (ft:ax->Option Bool) (fe:ax->Option Dat) (fi:ax->Option Dat):ax->Option (List Dat):=λρ=>(fi ρ).bind λd=>(dE d).bind λds=>if ds.length<sizeLine then bT gt ft fe (dh aD ρ) ds else none
theorem dS.aD{σ:L2.St}(h:dS K H Av σ ρ)(aD:List (Option Nat)):dS K H Av (cO aD σ) (dh aD ρ):=λi d e=>by
 unfold dh at e;rw[getElem?_map]at e;cases hc:aD[i]? with
 |none=>rw[hc]at e;cases e
 |some o=>
  rw[hc]at e;cases o with
  |none=>cases e
  |some j=>
   have e2:some ((ρ[j]?).join)=some (some d):=e;obtain⟨v,hv,r⟩:=h j d (join_some (Option.some.inj e2));refine⟨v,?_,r⟩;unfold cO;rw[getElem?_map,hc];show some ((σ[j]?).join)=_;rw[hv];rfl
theorem dS.fX{σ:L2.St}(h:kW K H Av ws as)(hl:σ.length=ρ.length)(E:dS K H Av σ ρ):dS K H Av (nQ σ ws) (gQ ρ as):=by
 induction h generalizing σ ρ with
 |nil=>exact E
 | @cons i v d vs ds h r ih=>
  refine ih (σ:=σ.set i (some v)) (ρ:=ρ.set i (some d)) (by rw[length_set,length_set];exact hl) λj d' e=>?_;have dw:=f6 e;rw[length_set]at dw;rcases aN e with⟨e1,q⟩|⟨e1,q⟩
  ·subst e1;cases q;exact⟨v,getElem?_set_self (by rw[hl];exact dw),h⟩
  ·obtain⟨u,a,b⟩:=E j d' q;exact⟨u,by rw[getElem?_set_ne (Ne.symm e1)];exact a,b⟩
theorem dZ.refl:∀(a:L2.St),dZ a a
 |[]=>trivial
 |none::a=>dZ.refl a
 |some v::a=>⟨rfl,dZ.refl a⟩
theorem dZ.set:∀{a b:L2.St} {i:Nat} {x:Option V},dZ a b->a[i]?=some none->dZ a (b.set i x)
 |none::a,_::b,0,x,h,_=>h
 |some v::a,_::b,0,x,h,e=>by simp at e
 |none::a,_::b,i+1,x,h,e=>dZ.set (a:=a) (b:=b) (i:=i) h (by simpa using e)
 |some v::a,_::b,i+1,x,h,e=>⟨h.1,dZ.set (a:=a) (b:=b) (i:=i) h.2 (by simpa using e)⟩
 |[],_,_,_,_,e=>by simp at e
 |none::_,[],_,_,h,_=>h.elim
 |some _::_,[],_,_,h,_=>h.elim
theorem dZ.fX{a b:L2.St}(h:kW K H Av ws as)(hs:∀p∈as,a[p.1]?=some none)(l:dZ a b):dZ a (nQ b ws):=by
 induction h generalizing b with
 |nil=>exact l
 | @cons i v d vs ds h r ih=>exact ih (λp hp=>hs p (mem_cons_of_mem _ hp)) (dZ.set l (hs _ mem_cons_self))
def iU (gt:Dat->Option cI) (aD:List (Option Nat)):Prop:=∀d as,gt d=some as->∀p∈as,aD[p.1]?=some none
theorem cD{aD:List (Option Nat)}(h:aD[i]?=some none):iU (aName i) aD:=λd as e p hp=>by
 cases e;have:p=(i,d):=by simpa using hp
 subst this;exact h
variable {fe:ax->Option Dat}
theorem BU{aD:List (Option Nat)}{fi:ax->Option Dat}(ht:iU gt aD):∀σ H Q,ko K (kc aD gt ft fe fi) σ H Q->ni aD (Q3 K (tF K fi)) (fW K gt) (iC K ft) (tF K fe) σ H Q:=by
 rintro σ H Q ⟨Av,ρ,out,hA,hE,hf,q⟩;obtain⟨d,e1,hf⟩:=bind_some hf;obtain⟨ds,e2,hf⟩:=bind_some hf;split at hf
 ·rename_i hz;refine⟨Av,ρ,d,hA,hE,e1,λx H1 s1 r=>?_⟩;have main:∀J:It,Over K J x d ds->∃W:Nat->Nat->List V->Hp->Prop,(∃m,W 0 m [] H1)/\∀i m ys H,W i m ys H->ys.length<sizeLine/\
    ((J.stop i H/\∀D,H D=none->Q (.ref D) (upd H D (.lst ys)))\/
     (J.go i H/\∀x H',J.sQ i H x H'->fW K gt x (cO aD σ) H' λcP H2=>dZ (cO aD σ) cP/\iC K ft cP H2 λb H3=>if b=true then tF K fe cP H3 λv H4=>∃m',m'<m/\W (i+1) m' (ys++[v]) H4 else ∃m',m'<m/\W (i+1) m' ys H3)):=by
   intro J ov;refine⟨λi m ys H2=>m=ds.length-i/\i<=ds.length/\aQ H1 H2/\∃o1 o2,aB K H2 Av ys o1/\o1.length<=i/\bT gt ft fe (dh aD ρ) (ds.drop i)=some o2/\out=o1++o2,
    ⟨_,rfl,zero_le _,aQ.refl _,[],out,.nil,le_refl _,by rw[drop_zero];exact hf,rfl⟩,?_⟩
   rintro i m ys H2 ⟨rfl,hi,s2,o1,o2,ro,hl,hc,rfl⟩;refine⟨by have:=ro.length;omega,?_⟩;have rx:=r.same s2;cases gf:ds[i]? with
   |none=>
    have hle:ds.length<=i:=List.getElem?_eq_none_iff.mp gf;rw[drop_eq_nil_of_le hle]at hc;cases hc;refine .inl ⟨(ov i H2 _ rx).1 hle,λD hD=>q H2 D ys (s1.trans s2) hD (by rw[append_nil];exact ro)⟩
   |some di=>
    have dw:=f6 gf;rw[drop_cons gf]at hc;obtain⟨as,a1,hc⟩:=bind_some (show(gt di).bind _=some o2 from hc);obtain⟨k,a2,hc⟩:=bind_some hc;obtain⟨go,yl⟩:=(ov i H2 _ rx).2 di gf;refine .inr ⟨go,λy H' hy=>?_⟩;obtain⟨eH,ry⟩:=yl y H' hy;subst eH;refine⟨Av,di,as,ry,a1,λws hw=>?_⟩;have cs:∀p∈as,(cO aD σ)[p.1]?=some none:=λp hp=>by
     unfold cO;rw[getElem?_map,ht di as a1 p hp];rfl
    have A2:=hA.same (s1.trans s2);have E2:dS K H' Av (nQ (cO aD σ) ws) (gQ (dh aD ρ) as):=dS.fX hw (by unfold cO dh;rw[length_map,length_map]) ((hE.same (s1.trans s2)).aD aD);refine⟨dZ.fX hw cs (dZ.refl _),Av,_,k,A2,E2,a2,λH3 s3=>?_⟩;cases k with
    |false=>
     rw[if_neg Bool.false_ne_true]at hc ⊢;exact⟨ds.length-(i+1),by omega,rfl,by omega,s2.trans s3,o1,o2,ro.same s3,by omega,hc,rfl⟩
    |true=>
     rw[if_pos rfl]at hc ⊢;obtain⟨dv,a3,hc⟩:=bind_some hc;obtain⟨o3,a4,hc⟩:=aT hc;subst hc;refine⟨Av,_,dv,A2.same s3,E2.same s3,a3,λv H4 s4 rv=>⟨ds.length-(i+1),by omega,rfl,by omega,s2.trans (s3.trans s4),o1++[dv],o3,(ro.same (s3.trans s4)).append (.cons rv .nil),?_,a4,?_⟩⟩
     ·rw[length_append,length_singleton];omega
     ·rw[append_assoc];rfl
  cases d with
  |list dH=>
   cases e2;obtain⟨a,xs,rfl,hq,rs⟩:=r.fq;exact⟨a,rfl,.inl ⟨⟨xs,hq.sq⟩,main _ nt⟩⟩
  |tuple dH=>
   cases e2;obtain⟨a,xs,rfl,hq,rs⟩:=r.ff;exact⟨a,rfl,.inr ⟨⟨xs,hq.sq⟩,main _ pf⟩⟩
  |_=>cases e2
 ·cases hf
def fL (f:ax->Option (List Dat)):ax->Option Dat:=λρ=>(f ρ).map .list
def fK:ax->Option Bool:=λ_=>some true
open PySem PySem.Spec PyProof.Rows L2
open PySem.W (Dat kqdOk)
variable {fs:ax->Option (List Dat)} in
def DI (i j:Nat) (fs:ax->Option (List Dat)):ar->Option Fl:=λΓ=>(fs (bG Γ)).bind λds=>match ds with
 |[d,d']=>some (.nx ((Γ.set i (some (.a8 d))).set j (some (.a8 d'))))
 |_=>none
variable {scope:Scope} {N':List Str}
theorem iS(hf:∀y∈scope.names,y.2≠.free:=by decide +kernel)(hc:∀y∈scope.names,y.2≠.cell:=by decide +kernel)(hk:scope.kind=.function:=by rfl)(hn:∀y∈scope.names,y.2=.local->scope.names.lookup y.1=some .local:=by decide +kernel)(nd:N'.Nodup:=by decide +kernel):nK X scope [] N' (N'.map λ_=>none):=by
 have rl:(relabel scope X.env).names=scope.names:=by
  unfold relabel;exact map_eq_self (l:=scope.names) λx hx=>by
   obtain⟨n,k⟩:=x;have:(k==NameKind.free)=false:=by simpa using hf _ hx
   simp[this]
 refine⟨closureFor_none hf,hc,hk,hn,nd,by rw[length_map],λx c h=>(by cases h),λx h=>?_,λi x j e1 e2=>?_⟩
 ·rw[rl]at h;rcases h with h|h
  ·exact absurd rfl (hc _ (PySem.mem_of_lookup h))
  ·exact absurd rfl (hf _ (PySem.mem_of_lookup h))
 ·rw[getElem?_map]at e2;cases h:N'[i]? with
  |none=>rw[h]at e2;cases e2
  |some y=>rw[h]at e2;cases e2
def yq (K:Fg):Sp:=λvs H Q _=>∃(a:Addr) (ns:List Int),vs=[.ref a]/\fk K H a (ns.map V.int)/\ns.length<=63/\∀H',Q (.bl true) H'
variable {k:Nat}
theorem PR{f:Addr}(h:gn P w K mg base gO k f fd ps (FF K 1 F))(hF:∀ns:List Int,ns.length<=63->F [.list (ns.map .int)]=some (.bool true)):gn P w K mg base gO k f fd ps (yq K):=
 h.imp λvs H Q E aM=>by
  obtain⟨a,ns,e,hS,hl,q⟩:=aM;subst e;refine⟨λ_=>False,[.list (ns.map .int)],.bool true,λ_ z=>z.elim,.cons (.lst ?_ (aB.ints ns)) .nil,rfl,hF ns hl,λv H' _ r=>by rw[r.kg];exact q H'⟩;rcases hS with h|h
  ·exact .inl ⟨h,λz=>z⟩
  ·exact .inr h
theorem S6{l:PySem.W.OpenLaw}{q:Program}{loose:List Str}{XP:(Str->Option Value)->Heap->Prop}{YP:World->Heap->Prop}{d:DefRec}{K:Params->Fg}(hk:k<=100)(hn:l.most=some 63)(Hl:d.params.defaults=[])(hY:∀(w:World) (h:Heap),YP w h->(K w.params).In h)(F:∀(w:World) (mg:Str->Option Value) (fa:Addr) (h:Heap),(K w.params).In h->h.Ns mainGlobals mg->mg d.name=some (.ref fa)->
   ∃fd:FuncData,(∀(s:Shared) (u:Value),BindsTo s fd ⟨[u],[]⟩ [("script",u)])/\∀base:Heap,(K w.params).In base->base.Ns mainGlobals mg->gn l.prog w (K w.params) mg base gO 100 fa fd ["script"] (yq (K w.params))):
  PySem.W.WalkO q loose XP YP l.row.toRowW d [] (λf vs=>PySem.call f vs):=
 L2.Me (n:=63) (k:=100) (x:="script") (CX:=λ_=>gO) (sp:=λw=>yq (K w.params)) hn (by decide) Hl ⟨rfl,by decide,by decide⟩ hY F (λ_ _ a ns hl _ hS=>⟨a,ns,rfl,hS,hl,λ_=>rfl⟩) λ_ _ _ _ _ z=>z
open PySem PySem.Spec PyProof.Rows L2
open PySem.W (Dat kqdOk)
def KP (K:Fg):R2:=λx y H Q=>∃l b xs zs,x=.ref l/\y=.ref b/\fk K H l xs/\fk K H b zs/\xs.length+zs.length<=sizeLine/\∀p,H p=none->Q (.ref p) (upd H p (.lst (xs++zs)))
theorem N3:dO X (binaryOp .Add) (KP X.K):=by
 intro pins s σ H x y v u Q I rx ry h;obtain⟨l,b,xs,zs,rfl,rfl,hH,hB,hz,q⟩:=h;cases rx;cases ry;obtain⟨aq,r,⟨⟨cls,dd,data,sl⟩,n,ho,hc,Uo,hd⟩,_⟩:=I.list hH;obtain⟨ja,r2,⟨⟨Ww,HR,data2,FH⟩,n2,qS,Ag,hd02,hd2⟩,_⟩:=I.list hB;simp only at hc hd Ag hd2;subst hc hd Ag hd2;have h1:=r.length;have h2:=r2.length;have e:aq.toArray++ja.toArray=(aq++ja).toArray:=by simp
 refine PySem.concat_meets ⟨_,ho,rfl⟩ ⟨_,qS,rfl⟩ PySem.noFill_list_add PySem.seq_list_add PySem.F.slot_list_add PySem.F.entry_list_add (PySem.F.args_list_add_2 _ _) (list_addW l b aq.toArray ja.toArray n n2 dd HR sl FH (by rw[size_toArray,size_toArray];omega)) ⟨ho,qS,?_⟩;rw[e];exact⟨.ref _,_,I.PL (t':=s.toks) (r.append r2) (by rw[length_append];omega),rfl,q _ I.fresh⟩
end
end L3
namespace L2
noncomputable section
open PySem PySem.Spec PyProof.Rows
def yO (i:Nat) (aD:List (Option Nat)) (wi:TI) (g:TG) (jh:TT) (te:TE):TS:=λD σ H=>ni aD wi g jh te σ H λv H'=>D.nx (σ.set i (some v)) H'
variable {X:Cx} {elt tg iter:Expr} {ifs:List Expr} {scope:Scope} {cl:List (Str×Addr)} {pos gz pos':Pos} {N':List Str} {wi:TI} {jh:TT} {te:TE} {iz:Nat} {x:Str}
theorem zw{own:Option Str}{aD:List (Option Nat)}{g:TG}(hc:X.calm=true)(B:Bl X scope own cl N' aD)(hi:PI X tg iter wi)(hg:∀C aw af ex,PG (hV X scope own cl N' C aw af ex) tg g)(ht:∀C aw af ex,rG (hV X scope own cl N' C aw af ex) ifs jh)(he:∀C aw af ex,PE (hV X scope own cl N' C aw af ex) elt te)(hN:X.N.Nodup)(ky:X.N[iz]?=some x)(hx:Loc X.env.scope x)(k9:swapsWith (.ListComp elt [⟨tg,iter,ifs,0⟩] scope pos) (some (.Name x pos')) gz.line X.env=pure true)(mQ:X.fn x=true\/X.env.scope.names.lookup x=some .local)(hs:∀x,foldedSetIterable iter X.env x=pure x:=by intro _;rfl):
  PS X (.Assign [.Name x pos'] (.ListComp elt [⟨tg,iter,ifs,0⟩] scope pos) gz) (yO iz aD wi g jh te):=by
 intro pins s σ H DD I h;rw[exec_Assign_Name_used _ _ _ _ k9];refine wpAny_bind (wpAny_standAt (wpAny_bind ?_));show wpAny _ X.A (do let _ <- comprehension (.ListComp elt [⟨tg,iter,ifs,0⟩] scope pos) scope X.env _ (newList []) false (eval iter X.env) (some (assign (.Name x pos') X.env))) _ _ s
 refine wpAny_bind (wpAny_mono (wpAny_comprehension_free (use:=some (assign (.Name x pos') X.env)) (Q:=λ_ s'=>SP X pins DD .next s') rfl hs B.wC B.kind B.names (cz (hi pins s σ H _ I h) λxv cq k7=>cz k7 λLb cL zY=>?_)) (λ_ s' hq=>wpAny_pure (wpAny_pure hq)) λ_ _ e=>e)
 obtain⟨it,fp,tn,J,H2,e,I2,T,qp,f2,W,⟨m0,w0⟩,turn⟩:=zY;subst e;refine vp (RR:=λacc C=>compPost (model X.prog X.w) X.A X.xe (some (assign (.Name x pos') X.env)) (λ_ s'=>SP X pins DD .next s') acc C) (Q:=λv H'=>DD.nx (σ.set iz (some v)) H') hc B hg ht he I2 T qp f2 w0 turn λD C s4 H' ys aq k hD lB tN Ic lR rv hsz qn=>?_
 obtain⟨m,hn,_⟩:=Ic.loc;have JO:s4.heap.get? D=some {cls:=.type "list",data:=.seq aq.toArray k}:=(Ic.pin (D,_) (by simp)).1;have LA:H' C=none:=Ic.free;have un:Un (mS X.stack) fp H2 (upd H' D (.lst ys)) cL.heap s4.heap:=by
  have bs:=Ic.base;refine⟨λb o e n h1 h2=>bs.keep b o e n h1 h2,λb o e n h1 h2=>bs.slot b o e n h1 h2,λb o e n h2=>?_,λb o e h2=>bs.there b o e h2,λb xs e=>?_,λb o u e=>?_,λb ps e=>?_⟩
  ·have:b<D:=by rw[<- hD];exact lt_size e
   rw[bB (ne_of_lt this)];exact bs.free b o e n h2
  ·have q:=bs.nM b xs e;rw[bB (bp q lR)];exact q
  ·have q:=bs.f7 b o u e;rw[bB (bp q lR)];exact q
  ·obtain⟨more,q⟩:=bs.nO b ps e;exact⟨more,by rw[bB (bp q lR)];exact q⟩
 have bR:i7 X.prog X.w (upd H' D (.lst ys)) s4.heap:=λb u e=>by
  by_cases hb:b=D
  ·subst hb;rw[dC]at e;cases e;exact⟨Nat.le_of_lt hsz,aq,k,rv,JO⟩
  ·rw[bB hb]at e;exact(Ic.bR b u e).nP (λc v Hn q=>q) (λc q=>by rw[bB (bp q lR)];exact q) λc xs q=>by rw[bB (bp q lR)];exact q
 have If:=I2.LQ (s':=s4) (H':=upd H' D (.lst ys)) (ch:=fp) Ic.os un bR Ic.bare λb hb=>⟨(f2 b hb).2.2.2.1,(f2 b hb).2.1,(f2 b hb).2.2.2.2.1,(f2 b hb).2.2.2.2.2⟩;have Ux:C≠X.env.locals:=Nat.ne_of_gt (lt_of_lt_of_le (by rw[<- hD];exact I2.lt) lB);have Uy:∀y c,X.env.cells.lookup y=some c->c≠C:=λy c e=>by
  obtain⟨v,q⟩:=I2.cell y c e;exact ne_of_lt (lt_of_lt_of_le (by rw[<- hD];exact q.lt) lB)
 refine wpAny_assign_Name (xc If hN ky hx (v:=.ref D) rfl (λs5 I5 q9=>?_) mQ);obtain⟨aa,W5,XN⟩:=q9;have QM:C≠aa:=by
  rcases XN with z|z
  ·rw[z];exact Ux
  ·exact Ne.symm (Uy x aa z)
 refine⟨m,hn.sameBut W5 QM,λh' xE=>?_⟩;have Yo:upd H' D (.lst ys) C=none:=by rw[bB (Ne.symm tN)];exact LA
 have I6:Inv X pins (σ.set iz (some (.ref D))) (upd H' D (.lst ys)) {s5 with heap:=h',toks:=s5.toks}:=I5.turned (it:=C) (λb o hb e=>(xE.2 b hb).trans e) Yo Ux (.inr (le_trans I2.sz (by rw[hD];exact lB))) Uy (λp hp z=>by
  have h1:=(I2.pin p hp).1;have h2:p.1<D:=by rw[<- hD];exact lt_size h1
  exact absurd z (ne_of_lt (lt_of_lt_of_le h2 lB)))
 exact⟨_,_,I6,qn D lR⟩
theorem rX{aD:List (Option Nat)}{g:TG}(hc:X.calm=true)(B:nK X scope cl N' aD)(hi:PI X tg iter wi)(hg:∀C aw af ex,PG (fP X scope cl N' C aw af ex) tg g)(ht:∀C aw af ex,rG (fP X scope cl N' C aw af ex) ifs jh)(he:∀C aw af ex,PE (fP X scope cl N' C aw af ex) elt te)(hN:X.N.Nodup)(ky:X.N[iz]?=some x)(hx:Loc X.env.scope x)(k9:swapsWith (.ListComp elt [⟨tg,iter,ifs,0⟩] scope pos) (some (.Name x pos')) gz.line X.env=pure true)(mQ:X.fn x=true\/X.env.scope.names.lookup x=some .local)(hs:∀x,foldedSetIterable iter X.env x=pure x:=by intro _;rfl):
  PS X (.Assign [.Name x pos'] (.ListComp elt [⟨tg,iter,ifs,0⟩] scope pos) gz) (yO iz aD wi g jh te):=zw (own:=none) hc B.g hi hg ht he hN ky hx k9 mQ hs
end
end L2
namespace L3
noncomputable section
open PySem PySem.Spec PyProof.Rows L2
open PySem.W (Dat kqdOk)
def lW (i:Nat) (f:ax->Option (List Dat)):ar->Option Fl:=λΓ=>(f (bG Γ)).map λds=>.nx (Γ.set i (some (.a8 (.list ds))))
theorem qO{f:Str->Addr}:∀{fv:List Str} {y:Str},y∈fv->(fv.map λx=>(x,f x)).lookup y=some (f y)
 |x::r,y,h=>by
  rw[map_cons,lookup_cons];by_cases e:y=x
  ·subst e;simp
  ·have:(y==x)=false:=by simpa using e
   rw[this];exact qO (by simpa [e]using h)
theorem jU{f:Str->Addr}:∀{fv:List Str} {y:Str} {c:Addr},(fv.map λx=>(x,f x)).lookup y=some c->y∈fv/\c=f y
 |[],y,c,h=>by simp at h
 |x::r,y,c,h=>by
  rw[map_cons,lookup_cons]at h;by_cases e:y=x
  ·subst e;simp at h;exact⟨mem_cons_self,h.symm⟩
  ·have:(y==x)=false:=by simpa using e
   rw[this]at h;obtain⟨h1,h2⟩:=jU h;exact⟨mem_cons_of_mem _ h1,h2⟩
variable {X:Cx} {scope:Scope}
theorem cY{tn fv:List Str}{js:List Nat}(q8:closureFor scope X.env=pure (fv.map λx=>(x,(X.env.cells.lookup x).getD 0)))(hf:∀y∈scope.names,y.2=.free->y.1∈fv)(hc:∀y∈scope.names,y.2≠.cell)(hk:scope.kind=.function)(hn:∀y∈scope.names,y.2=.local->scope.names.lookup y.1=some .local)(nd:(tn++fv).Nodup)(hl:fv.length=js.length)(hs:∀x∈fv,∃c,X.env.cells.lookup x=some c)(hj:∀p∈fv.zip js,X.N[p.2]?=some p.1/\kB X.env.scope p.1/\((relabel scope X.env).names.lookup p.1=some .cell\/(relabel scope X.env).names.lookup p.1=some .free)/\X.env.scope.names.lookup p.1≠some .local):
  nK X scope (fv.map λx=>(x,(X.env.cells.lookup x).getD 0)) (tn++fv) ((tn.map λ_=>none)++js.map some):=by
 refine⟨q8,hc,hk,hn,nd,by rw[length_append,length_append,length_map,length_map,hl],λy c h=>?_,λy h=>?_,λi x j e1 e2=>?_⟩
 ·obtain⟨h1,h2⟩:=jU h;obtain⟨c',e⟩:=hs y h1;rw[h2,e];rfl
 ·have hm:(y,NameKind.cell)∈(relabel scope X.env).names\/(y,NameKind.free)∈(relabel scope X.env).names:=h.elim (λz=>.inl (PySem.mem_of_lookup z)) λz=>.inr (PySem.mem_of_lookup z);have:y∈fv:=by
   rcases hm with hm|hm;all_goals
    obtain⟨⟨n,k⟩,hp,e⟩:=mem_map.mp hm;dsimp only at e;split at e
    ·rename_i Ej;have hk:k=.free:=by
      cases k<;>first|rfl|(simp at Ej)
     first
      |(cases e;done)
      |(cases e;exact hf _ hp hk)
    ·first
      |(cases e;done)
      |(cases e;exact absurd rfl (hc _ hp))
      |(cases e;exact hf _ hp rfl)
  exact⟨_,qO this⟩
 ·by_cases hi:i<tn.length
  ·rw[getElem?_append_left (by rw[length_map];exact hi),getElem?_map,getElem?_eq_getElem hi]at e2;cases e2
  ·rw[getElem?_append_right (by omega)]at e1;rw[getElem?_append_right (by rw[length_map];omega),length_map,getElem?_map]at e2;cases ej:js[i-tn.length]? with
   |none=>rw[ej]at e2;cases e2
   |some j'=>
    rw[ej]at e2;cases e2;refine hj (x,j) ?_;have h1:=(List.getElem?_eq_some_iff.mp e1);have h2:=(List.getElem?_eq_some_iff.mp ej);have h3:(fv.zip js)[i-tn.length]?=some (x,j):=by rw[List.getElem?_zip_eq_some];exact⟨e1,ej⟩
    exact mem_of_getElem? h3
open PySem PySem.Spec PyProof.Rows L2
open PySem.W (Dat kqdOk)
def lg:Dat->Bool
 | .none=>true| .bool _=>true| .int _=>true| .str _=>true
 |_=>false
variable {a b:Expr}
def CS:Dat->Dat->Bool
 | .none,.none=>true
 | .bool a,.bool b=>a==b
 | .bool a,.int b=>(if a then 1 else 0)==b
 | .int a,.bool b=>a==(if b then 1 else 0)
 | .int a,.int b=>a==b
 | .str a,.str b=>a==b
 |_,_=>false
variable {K:Fg} {H:Hp} {Av:dA} {v:V} {d:Dat}
theorem aS.flat(r:aS K H Av v d)(h:lg d=true):l9 v=true:=by
 cases r<;>first|rfl|cases h
theorem aS.CS{u:V}{e:Dat}(r:aS K H Av v d)(q:aS K H Av u e)(h:lg d=true)(k:lg e=true):vf v u=L3.CS d e:=by
 cases r<;>cases q<;>first|rfl|cases h|cases k
theorem aB.flat{K:Fg}{H:Hp}{Av:dA}:∀{vs:List V} {ds:List Dat},aB K H Av vs ds->ds.all lg=true->vs.all l9=true
 |_,_,.nil,_=>rfl
 |_,_,.cons r t,h=>by
  simp only[all_cons,and_eq_true]at h ⊢;exact⟨r.flat h.1,t.flat h.2⟩
theorem aB.Q2{K:Fg}{H:Hp}{Av:dA}{x:V}{dx:Dat}(rx:aS K H Av x dx)(hx:lg dx=true):∀{vs:List V} {ds:List Dat},aB K H Av vs ds->ds.all lg=true->zW x vs=ds.any λy=>CS y dx
 |_,_,.nil,_=>rfl
 |_,_,.cons r t,h=>by
  simp only[all_cons,and_eq_true]at h;unfold zW;rw[any_cons,any_cons,r.CS rx h.1 hx];have:=aB.Q2 rx hx t h.2;unfold zW at this;rw[this]
def U5:Dat->Dat->Option Bool:=λx y=>match y with
 | .list ds=>if lg x=true/\ds.all lg=true then some (ds.any λz=>CS z x)else none
 | .tuple ds=>if lg x=true/\ds.all lg=true then some (ds.any λz=>CS z x)else none
 | .str j=>match x with
  | .str i=>some (!(Builtin.Str.occurrences j i 0 j.length 1).isEmpty)
  |_=>none
 |_=>none
def inD:Dat->Dat->Option Dat:=λx y=>(U5 x y).map .bool
theorem Pk:kh K (λx y H Q=>Tv K false x y H Q\/(∃i j,x=.str i/\y=.str j/\Q (.bl (!(Builtin.Str.occurrences j i 0 j.length 1).isEmpty)) H)) inD:=by
 intro H Av x y dx dy d Q hA rx ry h q;obtain⟨k,e1,rfl⟩:=aT h;unfold U5 at e1;split at e1
 ·split at e1
  ·rename_i ds hc;cases e1;obtain⟨p,xs,rfl,hq,rs⟩:=ry.fq;refine .inl ⟨p,xs,rfl,.inl hq.sq,rx.flat hc.1,rs.flat hc.2,?_⟩;show Q (.bl (zW x xs)) H;rw[aB.Q2 rx hc.1 rs hc.2];exact q _ H (aQ.refl H) (.bl _)
  ·cases e1
 ·split at e1
  ·rename_i ds hc;cases e1;obtain⟨p,xs,rfl,hq,rs⟩:=ry.ff;refine .inl ⟨p,xs,rfl,.inr hq.sq,rx.flat hc.1,rs.flat hc.2,?_⟩;show Q (.bl (zW x xs)) H;rw[aB.Q2 rx hc.1 rs hc.2];exact q _ H (aQ.refl H) (.bl _)
  ·cases e1
 ·split at e1
  ·cases e1;exact .inr ⟨_,_,rx.iq,ry.iq,q _ H (aQ.refl H) (.bl _)⟩
  ·cases e1
 ·cases e1
def k6:Dat->Bool
 | .none=>true
 |_=>false
theorem aS.Pq(r:aS K H Av v d):decide (v=.bW)=k6 d:=by cases r<;>rfl
theorem Cg:kh K (λx y H Q=>y=.bW/\Q (.bl (decide (x=.bW))) H) (λx y=>if k6 y=true then some (.bool (k6 x))else none):=by
 intro H Av x y dx dy d Q hA rx ry h q;dsimp only at h;split at h
 ·rename_i hy;cases h;have e:dy=.none:=by cases dy<;>first|rfl|cases hy
  subst e;exact⟨ry.L4,by rw[rx.Pq];exact q _ H (aQ.refl H) (.bl _)⟩
 ·cases h
theorem Jm:kh K (λx y H Q=>y=.bW/\Q (.bl (!decide (x=.bW))) H) (λx y=>if k6 y=true then some (.bool (!k6 x))else none):=by
 intro H Av x y dx dy d Q hA rx ry h q;dsimp only at h;split at h
 ·rename_i hy;cases h;have e:dy=.none:=by cases dy<;>first|rfl|cases hy
  subst e;exact⟨ry.L4,by rw[rx.Pq];exact q _ H (aQ.refl H) (.bl _)⟩
 ·cases h
def jb:Dat->Dat->Option Dat:=λx y=>if k6 y=true then some (.bool (k6 x))else none
def j1:Dat->Dat->Option Dat:=λx y=>if k6 y=true then some (.bool (!k6 x))else none
def sj:List Dat->Option (List Dat)
 |[.list ds]=>some ds
 |[.tuple ds]=>some ds
 |_=>none
def oh:List Dat->Option Dat
 |[.list ds]=>some (.tuple ds)
 |[.tuple ds]=>some (.tuple ds)
 |_=>none
theorem Bu:pV K (λxs H Q=>∃p ys,xs=[.ref p]/\((fk K H p ys/\∀l,H l=none->Q (.ref l) (upd H l (.tup ys)))\/(j6 K H p ys/\Q (.ref p) H))) oh:=by
 intro H Av xs ds d Q hA r h q;unfold oh at h;split at h
 ·cases h;obtain⟨v,rfl,rv⟩:=r.dD;obtain⟨p,xs,rfl,hq,rs⟩:=rv.fq;exact⟨p,xs,rfl,.inl ⟨hq.sq,λl hl=>q _ _ (bK hl _) (.tL hA hl rs)⟩⟩
 ·cases h;obtain⟨v,rfl,rv⟩:=r.dD;have FL:=rv;obtain⟨p,xs,rfl,hq,rs⟩:=rv.ff;exact⟨p,xs,rfl,.inr ⟨hq.sq,q _ H (aQ.refl H) FL⟩⟩
 ·cases h
open PySem PySem.Spec PyProof.Rows L2
open PySem.W (Dat kqdOk)
def ModT (K:Fg) (a:Addr) (ds:List Dat):Prop:=∃(xs:List V) (o:Obj) (aq:Array Value) (n:Nat),K.lookup a=some o/\o.cls=.type "tuple"/\o.data=.seq aq n/\aq.size<=sizeLine/\Vals xs aq.toList/\∀H Av,aB K H Av xs ds
open PySem PySem.Spec PyProof.Rows L2
open PySem.W (Dat kqdOk)
variable {Γ:ar} {ad:Nat->Addr} {i:Nat} {ds es:List Dat}
theorem bz.set_own(hi:Γ[i]?=some (some (.own ds))):∀a,bz Av (Γ.set i (some (.own es))) ad a->bz Av Γ ad a:=by
 rintro a (z|⟨j,fs,e,m,q⟩)
 ·exact .inl z
 ·rcases aN e with⟨e1,_⟩|⟨e1,q1⟩
  ·subst e1;exact .inr ⟨j,_,hi,rfl,q⟩
  ·exact .inr ⟨j,fs,q1,m,q⟩
variable {H':Hp}
theorem JC(hi:Γ[i]?=some (some (.own ds)))(k:∀b o,H b=some o->b≠ad i->H' b=some o):lK H (bz Av Γ ad) H' (bz Av (Γ.set i (some (.own es))) ad):=
 λb o h n=>⟨k b o h λz=>n (.inr ⟨i,_,hi,rfl,z.symm⟩),λz=>n (bz.set_own hi b z)⟩
variable {σ:L2.St} {pn:Option Addr} {ys:List V} {af:Hp} {aC:Hid}
theorem GA.lend(G:GA K af Av pn aC H σ Γ ad)(hi:Γ[i]?=some (some (.own ds)))(k:∀b o,H b=some o->b≠ad i->H' b=some o)(hn:H' (ad i)=some (.lst ys))(r:aB K H' (bz Av Γ ad) ys es):
  GA K af Av pn aC H' σ (Γ.set i (some (.own es))) ad:=by
 have dw:i<Γ.length:=f6 hi;have kp:=JC (Av:=Av) (es:=es) hi k;obtain⟨Oa,g1,g2,g3,g4⟩:=G.own i ds hi;refine⟨λb o h=>k b o (G.same b o h) (bp h g4),G.fH,by rw[length_set];exact G.len,λj d' h=>?_,λj fs h=>?_,λj l fs gs h1 h2 m1 m2 e=>?_,λp hp=>(G.aC p hp).mono kp,λa fs e h=>?_,λj O fs h=>?_⟩
 ·rcases aN h with⟨_,q⟩|⟨_,q⟩
  ·cases q
  ·obtain⟨u,a,b⟩:=G.a8 j d' q;exact⟨u,a,b.mono kp⟩
 ·rcases aN h with⟨e,q⟩|⟨e,q⟩
  ·subst e;cases q;exact⟨ys,g1,hn,r.weak (bz.set_own hi),g4⟩
  ·obtain⟨zs,a,b,c,e'⟩:=G.own j fs q;exact⟨zs,a,k _ _ b λz=>e (G.Q1 j i fs ds q hi z),c.mono kp,e'⟩
 ·rcases aN h1 with⟨e1,q1⟩|⟨e1,q1⟩
  ·rcases aN h2 with⟨e2,q2⟩|⟨e2,q2⟩
   ·rw[e1,e2]
   ·subst e1;exact G.inj j l _ gs hi q2 rfl m2 e
  ·rcases aN h2 with⟨e2,q2⟩|⟨e2,q2⟩
   ·subst e2;exact G.inj j l fs _ q1 hi m1 rfl e
   ·exact G.inj j l fs gs q1 q2 m1 m2 e
 ·rcases aN h with⟨z,_⟩|⟨_,q⟩
  ·subst z;exact G.pin a ds e hi
  ·exact G.pin a fs e q
 ·rcases aN h with⟨e,q⟩|⟨e,q⟩
  ·cases q
  ·obtain⟨zs,a,b,c,e'⟩:=G.obj j O fs q;exact⟨zs,a,k _ _ b λz=>e (G.inj j i _ _ q hi rfl rfl z),c.mono kp,e'⟩
abbrev HF:=ar->Option (Dat×ar)
def tH (K:Fg) (f:HF):TE:=λσ H Q=>∃af Av pn aC Γ ad d aj,GA K af Av pn aC H σ Γ ad/\f Γ=some (d,aj)/\∀v H' fI,GA K af Av pn aC H' σ aj fI->aS K H' (bz Av aj fI) v d->Q v H'
def Kz (K:Fg) (f:ar->Option (Bool×ar)):TT:=λσ H Q=>∃af Av pn aC Γ ad d aj,GA K af Av pn aC H σ Γ ad/\f Γ=some (d,aj)/\∀H' fI,GA K af Av pn aC H' σ aj fI->Q d H'
def To (K:Fg) (f:ar->Option (List Dat×ar)):TA:=λσ H Q=>∃af Av pn aC Γ ad d aj,GA K af Av pn aC H σ Γ ad/\f Γ=some (d,aj)/\∀vs H' fI,GA K af Av pn aC H' σ aj fI->aB K H' (bz Av aj fI) vs d->Q vs H'
abbrev PH (X:Cx) (e:Expr) (f:HF):Prop:=PE X e (tH X.K f)
abbrev YX (X:Cx) (e:Expr) (f:ar->Option (Bool×ar)):Prop:=PT X e (Kz X.K f)
abbrev ZF (X:Cx) (es:List Expr) (f:ar->Option (List Dat×ar)):Prop:=PA X es (To X.K f)
variable {f:ax->Option Dat}
def fM (f:ax->Option Dat):HF:=λΓ=>match f (bG Γ)with
 |some d=>some (d,Γ)
 |none=>(f (bE Γ)).bind λd=>if pW d=true then some (d,Γ)else none
def An (f:ax->Option Bool):ar->Option (Bool×ar):=λΓ=>(f (bE Γ)).map λk=>(k,Γ)
def h2 (g:Dat->Dat->Option Dat) (fa fb:HF):HF:=λΓ=>(fa Γ).bind λp=>(fb p.2).bind λr=>(g p.1 r.1).map λd=>(d,r.2)
variable {ha hb:HF} {r:R2}
theorem yn{g:Dat->Dat->Option Dat}(hr:kh K r g):∀σ H Q,tH K (h2 g ha hb) σ H Q->BR r (tH K ha) (tH K hb) σ H Q:=by
 rintro σ H Q ⟨af,Av,pn,aC,Γ,ad,d,aj,G,hf,q⟩;obtain⟨⟨dx,Γ1⟩,e1,hf⟩:=bind_some hf;obtain⟨⟨dy,qh⟩,e2,hf⟩:=bind_some hf;obtain⟨d',e3,hf⟩:=aT hf;cases hf;refine⟨af,Av,pn,aC,Γ,ad,dx,Γ1,G,e1,λx H1 eM G1 r1=>⟨af,Av,pn,(x,dx)::aC,Γ1,eM,dy,qh,G1.hide r1,e2,λy H2 lT G2 r2=>?_⟩⟩;exact hr H2 (bz Av qh lT) x y dx dy _ Q G2.gu (G2.aC (x,dx) mem_cons_self) r2 e3 λv H3 s3 r3=>q v H3 lT (G2.qi.grow s3) r3
variable {pos:Pos}
theorem zx{op:Operator}{g:Dat->Dat->Option Dat}(ho:dO X (binaryOp op) r)(hd:kh X.K r g)(pa:PH X a ha)(pb:PH X b hb):PH X (.BinOp a op b pos) (h2 g ha hb):=bo (E1 ho pa pb) (yn hd)
theorem P1{op:CmpOp}{g:Dat->Dat->Option Dat}(ho:dO X (compareOp op) r)(hd:kh X.K r g)(pa:PH X a ha)(pb:PH X b hb)(hm:behindInMarks op b=false):PH X (.Compare a [op] [b] pos) (h2 g ha hb):=bo (Cd ho pa pb hm) (yn hd)
def yz (f:HF):ar->Option (Bool×ar):=λΓ=>(f Γ).bind λp=>(lE p.1).map λk=>(k,p.2)
theorem MR{op:CmpOp}{g:Dat->Dat->Option Dat}(ho:dO X (compareOp op) r)(hd:kh X.K r g)(pa:PH X a ha)(pb:PH X b hb)(hm:behindInMarks op b=false):YX X (.Compare a [op] [b] pos) (yz (h2 g ha hb)):=kM (C9 ho pa pb hm) λσ H Q aM=>by
 obtain⟨af,Av,pn,aC,Γ,ad,d,aj,G,hf,q⟩:=aM;obtain⟨⟨dv,Γ1⟩,e1,hf⟩:=bind_some hf;obtain⟨k,e2,hf⟩:=aT hf;cases hf;have e3:=n9 e2;subst e3;exact yn hd σ H _ ⟨af,Av,pn,aC,Γ,ad,_,Γ1,G,e1,λv H' fI G' r=>⟨_,r.kg,q H' fI G'⟩⟩
def El (f g:ar->Option (Bool×ar)):ar->Option (Bool×ar):=λΓ=>(f Γ).bind λp=>if p.1=true then g p.2 else some (false,p.2)
variable {e:Expr}
abbrev ZE (X:Cx) (e:Expr) (f:ar->Option (Bool×ar)):Prop:=PW X e (Kz X.K f)
theorem Pj:kh K (λx y H Q=>OO K x y H Q\/ON K x y H Q) bf:=by
 intro H Av x y dx dy d Q hA rx ry h q;unfold bf at h;split at h
 ·obtain⟨p,xs,rfl,hq,rs⟩:=rx.fq;obtain⟨v,hv,rv⟩:=rs.gH h;exact .inl ⟨p,xs,_,v,rfl,ry.d7,hq.sq,hv,q v H (aQ.refl H) rv⟩
 ·obtain⟨p,xs,rfl,hq,rs⟩:=rx.ff;obtain⟨v,hv,rv⟩:=rs.gH h;exact .inr ⟨p,xs,_,v,rfl,ry.d7,hq.sq,hv,q v H (aQ.refl H) rv⟩
 ·cases h
def pK:ar->Option (List Dat×ar):=λΓ=>some ([],Γ)
def fN (f:HF) (g:ar->Option (List Dat×ar)):ar->Option (List Dat×ar):=λΓ=>(f Γ).bind λp=>(g p.2).map λr=>(p.1::r.1,r.2)
def JL (g:ar->Option (List Dat×ar)):HF:=λΓ=>(g Γ).bind λp=>if p.1.length<=sizeLine then some (.tuple p.1,p.2)else none
def Ao (g:ar->Option (List Dat×ar)):HF:=λΓ=>(g Γ).bind λp=>if p.1.length<=sizeLine then some (.list p.1,p.2)else none
def QJ (n:Nat) (F:List Dat->Option Dat) (fs:ar->Option (List Dat×ar)):HF:=λΓ=>(fs Γ).bind λp=>if p.1.length=n then(F p.1).map λd=>(d,p.2)else none
variable {es:List Expr}
def WW (K:Fg) (n:Nat) (F:List Dat->List Dat->Option (Dat×List Dat)):Sp:=λvs H Q _=>∃Av a ws xs ds es d dH,vs=.ref a::ws/\fJ H Av/\Av a/\H a=some (.lst xs)/\aB K H Av xs ds/\aB K H Av ws es/\es.length+1=n/\F ds es=some (d,dH)/\
 ∀v H' ys,(∀b o,H b=some o->b≠a->H' b=some o)->H' a=some (.lst ys)->aB K H' Av ys dH->aS K H' Av v d->Q v H'
structure eI (P:Program) (w:World) (K:Fg) (mg:Str->Option Value) (base:Heap) (k:Nat) (x:Str) (ps:List Str) (n:Nat) (F:List Dat->List Dat->Option (Dat×List Dat)):Prop where
 ex:∃(f:Addr) (fd:FuncData),gn P w K mg base gO k f fd ps (WW K n F)/\mg x=some (.ref f)/\keepIn K (.ref f)=true/\Binds K fd ps []
variable {P:Program} {w:World} {mg:Str->Option Value} {base:Heap} {ps:List Str} {n:Nat}
theorem eI.up{j k:Nat}{x:Str}{F:List Dat->List Dat->Option (Dat×List Dat)}(D:eI P w K mg base j x ps n F)(h:j<=k):eI P w K mg base k x ps n F:=by
 obtain⟨f,fd,h1,h2⟩:=D.ex;exact⟨f,fd,h1.mono h,h2⟩
def tW (i n:Nat) (F:List Dat->List Dat->Option (Dat×List Dat)) (fs:ar->Option (List Dat×ar)):HF:=λΓ=>match Γ[i]? with
 |some (some (.own _))=>(fs Γ).bind λp=>match p.2[i]? with
  |some (some (.own ds))=>if p.1.length+1=n then(F ds p.1).map λr=>(r.1,p.2.set i (some (.own r.2)))else none
  |_=>none
 |_=>none
def startM (N:List Str) (ds es:List Dat):ar:=some (.own ds)::(es.map (λd=>some (.a8 d))++List.replicate (N.length-(es.length+1)) none)
variable {N:List Str} {a:Addr}
theorem Hr{xs ws:List V}{es:List Dat}(hA:fJ H Av)(ha:Av a)(hx:H a=some (.lst xs))(rx:aB K H Av xs ds)(qx:aB K H Av ws es):
  GA K (λb=>if b=a then none else H b) (λb=>Av b/\b≠a) (some a) [] H (start N (.ref a::ws)) (startM N ds es) (λ_=>a):=by
 have pB:∀(i:Nat) (s:Slot),(startM N ds es)[i+1]?=some (some s)->s.mt=false:=λi s h=>by
  unfold startM at h;rw[getElem?_cons_succ]at h;by_cases hi:i<es.length
  ·rw[getElem?_append_left (by rw[length_map];exact hi),getElem?_map,getElem?_eq_getElem hi]at h;cases h;rfl
  ·rw[getElem?_append_right (by rw[length_map];omega),getElem?_replicate]at h;split at h<;>cases h
 have wk:∀b,bz (λb=>Av b/\b≠a) (startM N ds es) (λ_=>a) b->Av b:=by
  rintro b (z|⟨i,fs,_,_,rfl⟩)
  ·exact z.1
  ·exact ha
 refine⟨λb o h=>?_,λb z=>?_,?_,λi d h=>?_,λi fs h=>?_,λi j fs gs h1 h2 m1 m2 _=>?_,λp hp=>absurd hp (by simp),(λa' fs e _=>by cases e;rfl),λi O fs h=>?_⟩
 ·split at h
  ·cases h
  ·exact h
 ·obtain⟨o,e⟩:=hA b z.1;exact⟨o,by rw[if_neg z.2];exact e⟩
 ·unfold L2.start startM;simp only[map_cons,cons_append,length_cons,length_append,length_map,length_replicate,qx.length]
 ·cases i with
  |zero=>cases h
  |succ i=>
   unfold startM at h;rw[getElem?_cons_succ]at h;by_cases hi:i<es.length
   ·rw[getElem?_append_left (by rw[length_map];exact hi),getElem?_map,getElem?_eq_getElem hi]at h;cases h;obtain⟨v,hv,rv⟩:=qx.get (getElem?_eq_getElem hi);refine⟨v,?_,rv.weak wk⟩;unfold L2.start;rw[map_cons,cons_append,getElem?_cons_succ,getElem?_append_left (by rw[length_map,qx.length];exact hi),getElem?_map,hv];rfl
   ·rw[getElem?_append_right (by rw[length_map];omega),getElem?_replicate]at h;split at h<;>cases h
 ·cases i with
  |zero=>cases h;exact⟨xs,rfl,hx,rx.weak wk,by rw[if_pos rfl]⟩
  |succ i=>exact absurd (pB i _ h) (by simp[Slot.mt])
 ·cases i with
  |succ i=>exact absurd (pB i _ h1) (by rw[m1];decide)
  |zero=>
   cases j with
   |succ j=>exact absurd (pB j _ h2) (by rw[m2];decide)
   |zero=>rfl
 ·cases i with
  |zero=>cases h
  |succ i=>exact absurd (pB i _ h) (by simp[Slot.mt])
def runM (N:List Str) (g:ar->Option Fl) (ds es:List Dat):Option (Dat×List Dat):=match g (startM N ds es)with
 |some (.rm d aj)=>match (aj[0]? : Option (Option Slot))with
  |some (some (.own dH))=>some (d,dH)
  |_=>none
 |_=>none
variable {qual:Str} {st:Stmt} {fd:FuncData}
theorem R7{x:Str}{fa:Addr}{k:Nat}{g:ar->Option Fl}{F:List Dat->List Dat->Option (Dat×List Dat)}(U:nI K x qual st fa fd)(hm:mg x=some (.ref fa))(hB:Binds K fd ps [])(S:fV N ps (aW st))(hn:ps.length=n)(hbody:∀(bC:Value) (A:Around) (outer:List Env) (s:Shared) (H:Hp) (E:XK),cg k (A.deeper (envOfC qual (aW st) s.heap.objs.size fa bC))->Kk (gY gO P w K mg base N qual (aW st) fa bC A outer s H E).ly (df st) g)(hF:∀ds es d dH,es.length+1=n->F ds es=some (d,dH)->runM N g ds es=some (d,dH)):eI P w K mg base (k+1) x ps n F:=by
 refine⟨fa,fd,U.ok S (λvs H Q E h=>?_) (λbC A outer s H vs Q E hr h=>?_),hm,U.kp,hB⟩
 ·obtain⟨Av,a,ws,xs,ds,es,d,dH,rfl,_,_,_,_,r,hl,_⟩:=h;rw[length_cons,r.length,hl,hn]
 ·obtain⟨Av,a,ws,xs,ds,es,d,dH,rfl,hA,ha,hx,rx,qx,hl,hd,q⟩:=h;have dM:=hF ds es d dH hl hd;unfold runM at dM;refine⟨_,hbody bC A outer s H E hr,?_⟩;split at dM
  ·rename_i d1 Γ1 hg;split at dM
   ·rename_i ds1 h0;cases dM;refine⟨_,_,some a,[],startM N ds es,_,⟨_,Hr hA ha hx rx qx⟩,hg,λbJ v H' fI G' rv=>?_⟩;obtain⟨ys,y1,y2,y3,y4⟩:=G'.own 0 _ h0;have ea:fI 0=a:=G'.pin a _ rfl h0;have wk:∀b,Av b->bz (λb=>Av b/\b≠a) Γ1 fI b:=λb z=>by
     by_cases eb:b=a
     ·exact .inr ⟨0,_,h0,rfl,ea.trans eb.symm⟩
     ·exact .inl ⟨z,eb⟩
    exact q v H' ys (λb o h ne=>G'.same b o (by rw[if_neg ne];exact h)) (by rw[<- ea];exact y2) (y3.weak wk) (rv.weak wk)
   ·cases dM
  ·cases dM
def DH (i:Nat) (f:HF):ar->Option Fl:=λΓ=>(f Γ).map λp=>.nx (p.2.set i (some (.a8 p.1)))
def DM (gt:Dat->Option cI) (f:HF):ar->Option Fl:=λΓ=>(f Γ).bind λp=>(gt p.1).map λas=>.nx (setG p.2 as)
def oY (f:HF):ar->Option Fl:=λΓ=>(f Γ).map λp=>.rm p.1 p.2
variable {h:HF}
theorem zv(pe:PH X e h):V1 X (.Return (some e) pos) (oY h):=bM (qB pe) λD σ H aM=>by
 obtain⟨af,Av,pn,aC,Γ,fl,⟨ad,G⟩,hf,q⟩:=aM;obtain⟨⟨d,Γ1⟩,e1,hf⟩:=aT hf;subst hf;exact⟨af,Av,pn,aC,Γ,ad,d,Γ1,G,e1,λv H' fI G' r=>q σ v H' fI G' r⟩
variable {g2 g1:ar->Option Fl} {ft:ax->Option Bool}
def yZ (ft:ar->Option (Bool×ar)) (g1 g2:ar->Option Fl):ar->Option Fl:=λΓ=>(ft Γ).bind λp=>if p.1=true then g1 p.2 else g2 p.2
theorem aB.set{K:Fg}{H:Hp}{Av:dA}:∀{vs:List V} {ds:List Dat} {j:Nat} {v:V} {d:Dat},aB K H Av vs ds->aS K H Av v d->aB K H Av (vs.set j v) (ds.set j d)
 |_,_,_,_,_,.nil,_=>.nil
 |_,_,0,_,_,.cons _ r,h=>.cons h r
 |_,_,j+1,_,_,.cons a r,h=>.cons a (aB.set (j:=j) r h)
def qv (i:Nat) (k:Int) (f:HF):ar->Option Fl:=λΓ=>(f Γ).bind λp=>match p.2[i]? with
 |some (some (.own ds))=>(lM ds.length k).map λj=>.nx (p.2.set i (some (.own (ds.set j p.1))))
 |_=>none
open PySem PySem.Spec PyProof.Rows L2
open PySem.W (Dat kqdOk)
def vD (K:Fg) (J:It) (xs:List V) (j5:List Dat) (ds:List Dat):Prop:=∀(i:Nat) (H:Hp) (Av:dA),aB K H Av xs j5->(ds.length<=i->J.stop i H)/\(∀di,ds[i]?=some di->J.go i H/\∀y H',fJ H Av->J.sQ i H y H'->aQ H H'/\aS K H' Av y di)
theorem Over.s{J:It}{x:V}(o:Over K J x d ds):vD K J [x] [d] ds:=λi H Av r=>by
 obtain⟨v,e,rv⟩:=r.dD;cases e;obtain⟨h1,h2⟩:=o i H Av rv;refine⟨h1,λdi hd=>?_⟩;obtain⟨g,y⟩:=h2 di hd;refine⟨g,λz H' _ hz=>?_⟩;obtain⟨e,r'⟩:=y z H' hz;subst e;exact⟨aQ.refl _,r'⟩
def KA (K:Fg) (fi:ax->Option (List Dat)):TI:=λσ H R=>∃Av ρ ds,fJ H Av/\dS K H Av σ ρ/\fi ρ=some ds/\∀J xs j5 H1,aQ H H1->aB K H1 Av xs j5->vD K J xs j5 ds->R J H1
abbrev V2 (X:Cx) (tg iter:Expr) (fi:ax->Option (List Dat)):Prop:=PI X tg iter (KA X.K fi)
variable {tg iter:Expr}
theorem mx{t t':TI}(h:PI X tg iter t)(m:∀σ H R,t' σ H R->t σ H R):PI X tg iter t':=λpins s σ H R I q=>h pins s σ H R I (m σ H R q)
def GW (f:ax->Option Dat):ax->Option (List Dat):=λρ=>(f ρ).bind dE
variable {fs:ax->Option (List Dat)} in
def zX (rg:List Dat->Option (List Dat)) (fs:ax->Option (List Dat)):ax->Option (List Dat):=λρ=>(fs ρ).bind rg
variable {fi:ax->Option (List Dat)} {gt:Dat->Option cI} {gb:ar->Option Fl}
def lX (gt:Dat->Option cI) (gb:ar->Option Fl) (fi:ax->Option (List Dat)):ar->Option Fl:=λΓ=>(fi (bG Γ)).bind λds=>forL gt gb ds Γ
variable {H1:Hp}
theorem vc{D:Ends}{xs:List V}{j5:List Dat}{J:It}{σ:L2.St}{fl:Fl}(ov:vD K J xs j5 ds)(G:GA K af Av pn aC H1 σ Γ ad)(rx:aB K H1 (bz Av Γ ad) xs j5)(hf:forL gt gb ds Γ=some fl)(q:JT K af Av pn aC D fl):
  ∃W:Nat->Nat->L2.St->Hp->Prop,(∃m,W 0 m σ H1)/\∀i m σ H,W i m σ H->
   (J.stop i H/\D.nx σ H)\/(J.go i H/\∃N:L2.St->Hp->Prop,(∀bJ H',N bJ H'->∃m',m'<m/\W (i+1) m' bJ H')/\∀x H',J.sQ i H x H'->fW K gt x σ H' λcP H2=>yN K gb {D with nx:=N,ct:=N,bk:=D.nx} cP H2):=by
 have SU:∀{vs:List V} {us:List Dat} {aC:Hid} {H:Hp} {σ:L2.St} {Γ:ar} {ad:Nat->Addr},GA K af Av pn aC H σ Γ ad->aB K H (bz Av Γ ad) vs us->GA K af Av pn (vs.zip us++aC) H σ Γ ad:=by
  intro vs us aC H σ Γ ad G r;refine⟨G.same,G.fH,G.len,G.a8,G.own,G.inj,λp hp=>?_,G.pin,G.obj⟩;rcases mem_append.mp hp with h|h
  ·clear G hp;induction vs generalizing us with
   |nil=>simp at h
   |cons v vs ih=>
    cases r with
    |cons r1 r2=>
     rw[zip_cons_cons]at h;rcases mem_cons.mp h with e|h
     ·subst e;exact r1
     ·exact ih r2 h
  ·exact G.aC p h
 have vM:∀{vs:List V} {us:List Dat} {aC:Hid} {H:Hp} {σ:L2.St} {Γ:ar} {ad:Nat->Addr},GA K af Av pn (vs.zip us++aC) H σ Γ ad->GA K af Av pn aC H σ Γ ad:=λG=>⟨G.same,G.fH,G.len,G.a8,G.own,G.inj,λp hp=>G.aC p (mem_append_right _ hp),G.pin,G.obj⟩;have back:∀{vs:List V} {us:List Dat} {aC:Hid} {H:Hp} {σ:L2.St} {Γ:ar} {ad:Nat->Addr},vs.length=us.length->GA K af Av pn (vs.zip us++aC) H σ Γ ad->aB K H (bz Av Γ ad) vs us:=by
  intro vs us aC H σ Γ ad hl G;have hp:∀p∈vs.zip us,aS K H (bz Av Γ ad) p.1 p.2:=λp hp=>G.aC p (mem_append_left _ hp);clear G;induction vs generalizing us with
  |nil=>cases us with|nil=>exact .nil|cons _ _=>simp at hl
  |cons v vs ih=>
   cases us with
   |nil=>simp at hl
   |cons u us=>
    rw[zip_cons_cons]at hp;exact .cons (hp (v,u) mem_cons_self) (ih (by simpa using hl) λp h=>hp p (mem_cons_of_mem _ h))
 have Xv:=rx.length;refine⟨λi m σ H=>m=ds.length-i/\i<=ds.length/\∃Γ,kj K af Av pn (xs.zip j5++aC) H σ Γ/\forL gt gb (ds.drop i) Γ=some fl,⟨_,rfl,zero_le _,Γ,⟨ad,SU G rx⟩,by rw[drop_zero];exact hf⟩,?_⟩;rintro i m σ H ⟨rfl,hi,Γ,⟨ad,G⟩,hf⟩;have rx:=back Xv G;cases gf:ds[i]? with
 |none=>
  have hl:ds.length<=i:=List.getElem?_eq_none_iff.mp gf;rw[drop_eq_nil_of_le hl]at hf;cases hf;exact .inl ⟨(ov i H _ rx).1 hl,q σ H ⟨ad,vM G⟩⟩
 |some di=>
  have dw:=f6 gf;rw[drop_cons gf]at hf;obtain⟨as,e1,hf⟩:=bind_some (show(gt di).bind _=some fl from hf);obtain⟨nC,e2,hf⟩:=bind_some hf;obtain⟨go,yl⟩:=(ov i H _ rx).2 di gf;refine .inr ⟨go,λbJ H'=>∃aj,kj K af Av pn (xs.zip j5++aC) H' bJ aj/\forL gt gb (ds.drop (i+1)) aj=some fl,λbJ H' ⟨aj,G',h'⟩=>⟨ds.length-(i+1),by omega,rfl,by omega,aj,G',h'⟩,λy H' hy=>?_⟩;obtain⟨sH,ry⟩:=yl y H' G.gu hy;refine⟨bz Av Γ ad,di,as,ry,e1,λws hw=>⟨af,Av,pn,xs.zip j5++aC,setG Γ as,nC,⟨ad,GA.fX hw (λ_ z=>z) (G.grow sH)⟩,e2,?_⟩⟩;cases nC with
  |nx aj=>exact λcP H2 G2=>⟨aj,G2,hf⟩
  |ct aj=>exact λcP H2 G2=>⟨aj,G2,hf⟩
  |bk aj=>cases hf;exact λcP H2 ⟨lT,G2⟩=>q cP H2 ⟨lT,vM G2⟩
  |rt v=>cases hf;exact q
  |rm v aj=>cases hf;exact λcP v2 H2 lT G2 r2=>q cP v2 H2 lT (vM G2) r2
def gh (aD:List (Option Nat)) (gt:Dat->Option cI) (ft:ax->Option Bool) (fe:ax->Option Dat) (fi:ax->Option (List Dat)):ax->Option (List Dat):=λρ=>(fi ρ).bind λds=>if ds.length<sizeLine then bT gt ft fe (dh aD ρ) ds else none
variable {fe:ax->Option Dat}
theorem rO{aD:List (Option Nat)}(ht:iU gt aD):∀σ H Q,ko K (gh aD gt ft fe fi) σ H Q->ni aD (KA K fi) (fW K gt) (iC K ft) (tF K fe) σ H Q:=by
 rintro σ H Q ⟨Av,ρ,out,hA,hE,hf,q⟩;obtain⟨ds,e1,hf⟩:=bind_some hf;split at hf
 ·rename_i hz;refine⟨Av,ρ,ds,hA,hE,e1,λJ xs j5 H1 s1 r ov=>?_⟩;refine⟨λi m ys H2=>m=ds.length-i/\i<=ds.length/\aQ H1 H2/\∃o1 o2,aB K H2 Av ys o1/\o1.length<=i/\bT gt ft fe (dh aD ρ) (ds.drop i)=some o2/\out=o1++o2,
   ⟨_,rfl,zero_le _,aQ.refl _,[],out,.nil,le_refl _,by rw[drop_zero];exact hf,rfl⟩,?_⟩
  rintro i m ys H2 ⟨rfl,hi,s2,o1,o2,ro,hl,hc,rfl⟩;refine⟨by have:=ro.length;omega,?_⟩;have rx:=r.same s2;cases gf:ds[i]? with
  |none=>
   have hle:ds.length<=i:=List.getElem?_eq_none_iff.mp gf;rw[drop_eq_nil_of_le hle]at hc;cases hc;refine .inl ⟨(ov i H2 _ rx).1 hle,λD hD=>q H2 D ys (s1.trans s2) hD (by rw[append_nil];exact ro)⟩
  |some di=>
   have dw:=f6 gf;rw[drop_cons gf]at hc;obtain⟨as,a1,hc⟩:=bind_some (show(gt di).bind _=some o2 from hc);obtain⟨k,a2,hc⟩:=bind_some hc;obtain⟨go,yl⟩:=(ov i H2 _ rx).2 di gf;refine .inr ⟨go,λy H' hy=>?_⟩;obtain⟨sH,ry⟩:=yl y H' (hA.same (s1.trans s2)) hy;refine⟨Av,di,as,ry,a1,λws hw=>?_⟩;have cs:∀p∈as,(cO aD σ)[p.1]?=some none:=λp hp=>by
    unfold cO;rw[getElem?_map,ht di as a1 p hp];rfl
   have A2:=hA.same (s1.trans (s2.trans sH));have E2:dS K H' Av (nQ (cO aD σ) ws) (gQ (dh aD ρ) as):=dS.fX hw (by unfold cO dh;rw[length_map,length_map]) ((hE.same (s1.trans (s2.trans sH))).aD aD);refine⟨dZ.fX hw cs (dZ.refl _),Av,_,k,A2,E2,a2,λH3 s3=>?_⟩;cases k with
   |false=>
    rw[if_neg Bool.false_ne_true]at hc ⊢;exact⟨ds.length-(i+1),by omega,rfl,by omega,s2.trans (sH.trans s3),o1,o2,ro.same (sH.trans s3),by omega,hc,rfl⟩
   |true=>
    rw[if_pos rfl]at hc ⊢;obtain⟨dv,a3,hc⟩:=bind_some hc;obtain⟨o3,a4,hc⟩:=aT hc;subst hc;refine⟨Av,_,dv,A2.same s3,E2.same s3,a3,λv H4 s4 rv=>⟨ds.length-(i+1),by omega,rfl,by omega,s2.trans (sH.trans (s3.trans s4)),o1++[dv],o3,(ro.same (sH.trans (s3.trans s4))).append (.cons rv .nil),?_,a4,?_⟩⟩
    ·rw[length_append,length_singleton];omega
    ·rw[append_assoc];rfl
 ·cases hf
def WT (K:Fg) (f:ar->Option (List Dat×ar)):TE:=λσ H Q=>∃af Av pn aC Γ ad d aj,GA K af Av pn aC H σ Γ ad/\f Γ=some (d,aj)/\∀H1 p xs eM,GA K af Av pn aC H1 σ aj eM->H1 p=none->aB K H1 (bz Av aj eM) xs d->Q (.ref p) (upd H1 p (.lst xs))
def hL (f:ar->Option (List Dat×ar)):HF:=λΓ=>(f Γ).map λp=>(.list p.1,p.2)
set_option maxHeartbeats 4000000
open PySem PySem.Spec PyProof.Rows L2
open PySem.W (Dat kqdOk)
def lU:Bool->Heap->Addr->Array Value->Prop
 |true,h,a,aq=>h.IsList a aq
 |false,h,a,aq=>h.IsTuple a aq
def j7:Bool->Heap->Addr->Addr->Nat->Prop
 |true,h,it,a,i=>h.IsListIter it a i
 |false,h,it,a,i=>h.IsTupleIter it a i
variable {k:Bool} {h h':Heap} {aq:Array Value}
theorem lU.on(x:lU k h a aq)(e:∀o,h.get? a=some o->h'.get? a=some o):lU k h' a aq:=by
 cases k<;>exact let ⟨o,ho,r⟩:=x;⟨o,e o ho,r⟩
variable {it:Addr}
theorem j7.on(x:j7 k h it a i)(e:∀o,h.get? it=some o->h'.get? it=some o):j7 k h' it a i:=by
 cases k<;>exact let ⟨o,ho,r⟩:=x;⟨o,e o ho,r⟩
theorem j7.obj(x:j7 k h it a i):∃o,h.get? it=some o/\∀v,o.data≠.cell v:=by
 cases k<;>exact let ⟨o,ho,_,hd⟩:=x;⟨o,ho,λv z=>by rw[hd]at z;cases z⟩
theorem lU.obj(x:lU k h a aq):∃o,h.get? a=some o:=by
 cases k<;>exact let ⟨o,ho,_⟩:=x;⟨o,ho⟩
variable {E Q:Value->Shared->Prop} {prog:Program} {A:Around}
variable {s:Shared} in
theorem Es{ii la:Addr}{x:Value}(hit:j7 k s.heap ii la i)(hq:lU k s.heap la aq)(hx:aq[i]?=some x)(hQ:∀h',j7 k h' ii la (i+1)->SameBut ii s.heap h'->Q x {s with heap:=h'}):wpAny (model prog w) A (Builtin.SmallTypes.nextOf (.ref ii)) Q E s:=by
 cases k with
 |true=>exact wpAny_nextOf_list_item hit hq hx hQ
 |false=>
  have tU:s.heap.IsTupleIter ii la i:=hit;obtain⟨oi,pi,ci,di⟩:=id tU;obtain⟨oa,pa,_,na,da⟩:=(show s.heap.IsTuple la aq from hq);unfold Builtin.SmallTypes.nextOf;refine wpAny_bind (wpAny_callSpecial?_slot (name:=Str.ofString "__next__") tU.typeIs F.slot_tuple_iterator_next (wpAny_call_entry F.slot_tuple_iterator_next tU.typeIs F.entry_tuple_iterator_next ?_ (F.args_tuple_iterator_next_1 _)));show wpAny _ _ (field (.ref ii) 0 >>= _) _ _ s;refine wpAny_bind (wpAny_field pi di (x:=.ref la) rfl ?_);show wpAny _ _ (if(Value.ref la==Value.none)=true then _ else _) _ _ s;rw[if_neg (show ¬((Value.ref la==Value.none)=true)from Bool.false_ne_true)];show wpAny _ _ (field (.ref ii) 1 >>= _) _ _ s;refine wpAny_bind (wpAny_field pi di (x:=.int i 0) rfl ?_);show wpAny _ _ (seqItems? (.ref la) >>= _) _ _ s;refine wpAny_bind (wpAny_seqItems pa da ?_);simp only[hx,toNat_natCast];exact wpAny_bind (wpAny_setField pi di (by simp) (wpAny_pure ⟨x,rfl,wpAny_pure (hQ _ ⟨_,Heap.get?_update_self _ pi (Obj.isFreed_of_fields (Obj.data_mapFields di _)),(Obj.cls_mapFields ..).trans ci,by rw[Obj.data_mapFields di];simp[rawInt]⟩ (SameBut.update ..))⟩))
variable {s:Shared} in
theorem xU{ii la:Addr}(hh:A.handled=none)(hit:j7 k s.heap ii la i)(hq:lU k s.heap la aq)(hx:aq[i]?=none)(hE:∀h' e,ExtBut ii s.heap h'->(∃o,h'.get? e=some o/\o.cls=.type "StopIteration")->E (.ref e) {s with heap:=h'}):wpAny (model prog w) A (Builtin.SmallTypes.nextOf (.ref ii)) Q E s:=by
 cases k with
 |true=>exact wpAny_nextOf_list_end hh hit hq hx hE
 |false=>
  have tU:s.heap.IsTupleIter ii la i:=hit;obtain⟨oi,pi,ci,di⟩:=id tU;obtain⟨oa,pa,_,na,da⟩:=(show s.heap.IsTuple la aq from hq);unfold Builtin.SmallTypes.nextOf;refine wpAny_bind (wpAny_callSpecial?_slot (name:=Str.ofString "__next__") tU.typeIs F.slot_tuple_iterator_next (wpAny_call_entry F.slot_tuple_iterator_next tU.typeIs F.entry_tuple_iterator_next ?_ (F.args_tuple_iterator_next_1 _)));show wpAny _ _ (field (.ref ii) 0 >>= _) _ _ s;refine wpAny_bind (wpAny_field pi di (x:=.ref la) rfl ?_);show wpAny _ _ (if(Value.ref la==Value.none)=true then _ else _) _ _ s;rw[if_neg (show ¬((Value.ref la==Value.none)=true)from Bool.false_ne_true)];show wpAny _ _ (field (.ref ii) 1 >>= _) _ _ s;refine wpAny_bind (wpAny_field pi di (x:=.int i 0) rfl ?_);show wpAny _ _ (seqItems? (.ref la) >>= _) _ _ s;refine wpAny_bind (wpAny_seqItems pa da ?_);simp only[hx,toNat_natCast];refine wpAny_bind (wpAny_rule (wpAny_bind (wpAny_setField pi di (by simp) (?_:wpAny _ _ (newExc (.type "StopIteration") [] >>= _) _ _ _))));refine wpAny_bind (by
   simp only[newExc,newTuple];exact wpAny_bind (wpAny_newObj_type (wpAny_bind (m:=firstArgMember _ _) (wpAny_of_eq (a:=Value.none) (by first|rfl|(simp only[firstArgMember];rfl)) (wpAny_newObj_type (by
    simp only[raiseNew];exact wpAny_bind (wpAny_handled (by
     (first|rw[show A.in1.handled=none from hh]|rw[hh])
     exact wpAny_bind (wpAny_pure (wpAny_throw (hE _ _ (((SameBut.update ..).extBut.push _).push _) ⟨_,get?_push_size _ rfl,rfl⟩)))))) (by size_fits)))) (by size_fits)))
abbrev LW (h:Heap) (z TI TO i1 i2:Addr) (f0:Value) (x y:Value):Prop:=IsZip h z TI TO f0/\IsPair h TI (.ref i1) (.ref i2)/\IsPair h TO x y
variable {k1 k2:Bool} {z i1 i2 l1 l2:Addr} {n1 n2:Nat} {xs ys:Array Value}
variable {s:Shared} in
theorem Fq{TI TO:Addr}{x y a b:Value}(D:ZipApart z TI TO i1 i2 l1 l2)(Z:LW s.heap z TI TO i1 i2 .none a b)(w1:j7 k1 s.heap i1 l1 n1)(w2:j7 k2 s.heap i2 l2 n2)(q1:lU k1 s.heap l1 xs)(q2:lU k2 s.heap l2 ys)(hx:xs[n1]?=some x)(hy:ys[n2]?=some y)(hQ:∀h',IsZip h' z TI TO (rawInt s.heap.objs.size)->IsPair h' TO x y->j7 k1 h' i1 l1 (n1+1)->j7 k2 h' i2 l2 (n2+1)->IsPair h' s.heap.objs.size x y->
   (∀c o,c≠z->c≠TO->c≠i1->c≠i2->s.heap.get? c=some o->h'.get? c=some o)->Q (.ref s.heap.objs.size) {s with heap:=h'}):
  wpAny (model prog w) A (Builtin.«zip.__next__» ⟨[.ref z],[]⟩) (λfin s'=>∃v,fin=.done (.ret v)/\Q v s') E s:=by
 obtain⟨Zz,ZI,ZO⟩:=Z;refine(?_:wpAny _ _ (field (.ref z) 2 >>= _) _ _ _);refine wpAny_bind (wpAny_field Zz rfl (x:=.bool false) rfl (?_:wpAny _ _ (field (.ref z) 3 >>= _) _ _ _));refine wpAny_bind (wpAny_field Zz rfl (x:=.ref TI) rfl (wpAny_bind (wpAny_seqItems ZI rfl ?_)));refine(?_:wpAny _ _ (Builtin.SmallTypes.ownedTupleIsFree (.ref z) >>= _) _ _ _);refine wpAny_bind (by
  unfold Builtin.SmallTypes.ownedTupleIsFree;exact wpAny_bind (wpAny_field Zz rfl (x:=.none) rfl (wpAny_pure (by
   simp only[if_true];refine wpAny_bind (wpAny_rule (wpAny_bind (wpAny_field Zz rfl (x:=.ref TO) rfl (wpAny_bind (wpAny_setField_rec Zz (by simp) λg1 z1 m1=>?_)))));have Kt:IsZip g1 z TI TO .ellipsis:=z1;refine wpAny_bind ?_;simp only[List.forIn_cons,forIn_nil,List.zipIdx_cons,List.zipIdx_nil];refine wpAny_bind (wpAny_bind (wpAny_onRaise (?_:wpAny _ _ (Builtin.SmallTypes.nextOf (.ref i1) >>= _) _ _ _)));refine wpAny_bind (Es (w1.on λo e=>m1.extBut _ _ D.i1z e) (q1.on λo e=>m1.extBut _ _ D.l1z e) hx λg2 v2 m2=>wpAny_pure ?_);have o2:IsPair g2 TO a b:=m2.extBut _ _ D.TOi1 (m1.extBut _ _ D.TOz ZO);refine wpAny_bind (wpAny_seqItems o2 rfl (wpAny_bind (wpAny_updateSeq_pair o2 λg3 p3 m3=>wpAny_bind (wpAny_letGo (wpAny_pure ?_)))));have o3:IsPair g3 TO x b:=p3;refine wpAny_bind (wpAny_bind (wpAny_onRaise (?_:wpAny _ _ (Builtin.SmallTypes.nextOf (.ref i2) >>= _) _ _ _)));refine wpAny_bind (Es (w2.on λo e=>m3.extBut _ _ D.TOi2.symm (m2.extBut _ _ D.i12.symm (m1.extBut _ _ D.i2z e))) (q2.on λo e=>m3.extBut _ _ D.l2TO (m2.extBut _ _ D.l2i1 (m1.extBut _ _ D.l2z e))) hy λg4 v4 m4=>wpAny_pure ?_);have o4:IsPair g4 TO x b:=m4.extBut _ _ D.TOi2 o3;refine wpAny_bind (wpAny_seqItems o4 rfl (wpAny_bind (wpAny_updateSeq_pair o4 λg5 p5 m5=>wpAny_bind (wpAny_letGo (wpAny_pure (wpAny_pure ?_))))));have o5:IsPair g5 TO x y:=p5;refine wpAny_bind (wpAny_seqItems o5 rfl (wpAny_bind (wpAny_newTuple ?_)));have sz:g5.objs.size=s.heap.objs.size:=by rw[m5.1,m4.1,m3.1,m2.1,m1.1]
   have z5:IsZip g5 z TI TO .ellipsis:=m5.extBut _ _ D.TOz.symm (m4.extBut _ _ D.i2z.symm (m3.extBut _ _ D.TOz.symm (m2.extBut _ _ D.i1z.symm Kt)));have k5:∀c o,c≠z->c≠TO->c≠i1->c≠i2->s.heap.get? c=some o->g5.get? c=some o:=λc o a1 a2 a3 a4 e=>m5.extBut _ _ a2 (m4.extBut _ _ a4 (m3.extBut _ _ a2 (m2.extBut _ _ a3 (m1.extBut _ _ a1 e))));have v5:j7 k1 g5 i1 l1 (n1+1):=v2.on λo e=>m5.extBut _ _ D.TOi1.symm (m4.extBut _ _ D.i12 (m3.extBut _ _ D.TOi1.symm e));have v6:j7 k2 g5 i2 l2 (n2+1):=v4.on λo e=>m5.extBut _ _ D.TOi2.symm e;have zl:z<g5.objs.size:=lt_size z5;refine(?_:wpAny _ _ (Builtin.SmallTypes.ownedTupleHandOut (.ref z) (.ref g5.objs.size) >>= _) _ _ _);refine wpAny_bind (by
    unfold Builtin.SmallTypes.ownedTupleHandOut;have z6:IsZip (g5.push {cls:=.type "tuple",data:=.seq #[x,y]}) z TI TO .ellipsis:=get?_push_of_some _ z5;refine wpAny_bind (wpAny_setField_rec z6 (by simp) λg7 z7 m7=>?_);have WD:IsZip g7 z TI TO (rawInt g5.objs.size):=z7;refine wpAny_setField_rec WD (by simp) λg8 z8 m8=>?_;have Th:IsZip g8 z TI TO (rawInt g5.objs.size):=z8;have up:∀c o,c≠z->g5.get? c=some o->g8.get? c=some o:=λc o c1 e=>m8.extBut _ _ c1 (m7.extBut _ _ c1 (get?_push_of_some _ e));have t8:IsPair g8 g5.objs.size x y:=m8.extBut _ _ (Nat.ne_of_gt zl) (m7.extBut _ _ (Nat.ne_of_gt zl) (get?_push_size _ rfl));rw[sz]at Th t8;refine wpAny_pure ⟨_,rfl,(?_:Q (.ref g5.objs.size) _)⟩;rw[sz];exact hQ g8 Th (up _ _ D.TOz o5) (v5.on λo e=>up _ o D.i1z e) (v6.on λo e=>up _ o D.i2z e) t8 λc o c1 c2 c3 c4 e=>up c o c1 (k5 c o c1 c2 c3 c4 e)))))
  )
variable {s:Shared} in
theorem Fh{TI TO:Addr}{a b:Value}{Q:Fin->Shared->Prop}(hh:A.handled=none)(D:ZipApart z TI TO i1 i2 l1 l2)(Z:LW s.heap z TI TO i1 i2 .none a b)(w1:j7 k1 s.heap i1 l1 n1)(w2:j7 k2 s.heap i2 l2 n2)(q1:lU k1 s.heap l1 xs)(q2:lU k2 s.heap l2 ys)(JK:xs[n1]?=none\/ys[n2]?=none)(hE:∀h' e,(∀c o,c≠z->c≠TO->c≠i1->c≠i2->s.heap.get? c=some o->h'.get? c=some o)->(∃o,h'.get? e=some o/\o.cls=.type "StopIteration")->E (.ref e) {s with heap:=h'}):
  wpAny (model prog w) A (Builtin.«zip.__next__» ⟨[.ref z],[]⟩) Q E s:=by
 obtain⟨Zz,ZI,ZO⟩:=Z;refine(?_:wpAny _ _ (field (.ref z) 2 >>= _) _ _ _);refine wpAny_bind (wpAny_field Zz rfl (x:=.bool false) rfl (?_:wpAny _ _ (field (.ref z) 3 >>= _) _ _ _));refine wpAny_bind (wpAny_field Zz rfl (x:=.ref TI) rfl (wpAny_bind (wpAny_seqItems ZI rfl ?_)));refine(?_:wpAny _ _ (Builtin.SmallTypes.ownedTupleIsFree (.ref z) >>= _) _ _ _);refine wpAny_bind (by
  unfold Builtin.SmallTypes.ownedTupleIsFree;exact wpAny_bind (wpAny_field Zz rfl (x:=.none) rfl (wpAny_pure (by
   simp only[if_true];refine wpAny_bind (wpAny_rule (wpAny_bind (wpAny_field Zz rfl (x:=.ref TO) rfl (wpAny_bind (wpAny_setField_rec Zz (by simp) λg1 z1 m1=>?_)))));have Kt:IsZip g1 z TI TO .ellipsis:=z1;refine wpAny_bind ?_;simp only[List.forIn_cons,forIn_nil,List.zipIdx_cons,List.zipIdx_nil];refine wpAny_bind (wpAny_bind (wpAny_onRaise (?_:wpAny _ _ (Builtin.SmallTypes.nextOf (.ref i1) >>= _) _ _ _)));cases hx:xs[n1]? with
   |none=>
    refine wpAny_bind (xU hh (w1.on λo e=>m1.extBut _ _ D.i1z e) (q1.on λo e=>m1.extBut _ _ D.l1z e) hx λg2 e m2 he=>?_);obtain⟨oe,pe,ce⟩:=he;have z2:IsZip g2 z TI TO .ellipsis:=m2 _ _ D.i1z.symm Kt;have ez:e≠z:=λx=>by subst x;rw[z2]at pe;cases pe;simp at ce
    exact wpAny_setField_rec z2 (by simp) λg3 _ m3=>hE g3 e (λc o c1 _ c3 _ x=>m3.extBut _ _ c1 (m2 _ _ c3 (m1.extBut _ _ c1 x))) ⟨oe,m3.extBut _ _ ez pe,ce⟩
   |some x=>
    have hy:ys[n2]?=none:=JK.elim (λh=>by rw[hx]at h;cases h) id;refine wpAny_bind (Es (w1.on λo e=>m1.extBut _ _ D.i1z e) (q1.on λo e=>m1.extBut _ _ D.l1z e) hx λg2 v2 m2=>wpAny_pure ?_);have o2:IsPair g2 TO a b:=m2.extBut _ _ D.TOi1 (m1.extBut _ _ D.TOz ZO);refine wpAny_bind (wpAny_seqItems o2 rfl (wpAny_bind (wpAny_updateSeq_pair o2 λg3 p3 m3=>wpAny_bind (wpAny_letGo (wpAny_pure ?_)))));refine wpAny_bind (wpAny_bind (wpAny_onRaise (?_:wpAny _ _ (Builtin.SmallTypes.nextOf (.ref i2) >>= _) _ _ _)));refine wpAny_bind (xU hh (w2.on λo e=>m3.extBut _ _ D.TOi2.symm (m2.extBut _ _ D.i12.symm (m1.extBut _ _ D.i2z e))) (q2.on λo e=>m3.extBut _ _ D.l2TO (m2.extBut _ _ D.l2i1 (m1.extBut _ _ D.l2z e))) hy λg4 e m4 he=>?_);obtain⟨oe,pe,ce⟩:=he;have z4:IsZip g4 z TI TO .ellipsis:=m4 _ _ D.i2z.symm (m3.extBut _ _ D.TOz.symm (m2.extBut _ _ D.i1z.symm Kt));have ez:e≠z:=λx=>by subst x;rw[z4]at pe;cases pe;simp at ce
    exact wpAny_setField_rec z4 (by simp) λg5 _ m5=>hE g5 e (λc o c1 c2 c3 c4 x=>m5.extBut _ _ c1 (m4 _ _ c4 (m3.extBut _ _ c2 (m2.extBut _ _ c3 (m1.extBut _ _ c1 x))))) ⟨oe,m5.extBut _ _ ez pe,ce⟩))))
def l8 (k:Bool) (l:Addr):Obj:={cls:=.type (if k then "list_iterator" else "tuple_iterator"),data:=.fields #[.ref l,.int 0 0]}
def uu (k1 k2:Bool) (h:Heap) (l1 l2:Addr):Heap:=(h.push (l8 k1 l1)).push (l8 k2 l2)
def BM (k1 k2:Bool) (h:Heap) (l1 l2:Addr):Heap:=((uu k1 k2 h l1 l2).push {cls:=.type "tuple",data:=.seq #[.ref h.objs.size,.ref (h.push (l8 k1 l1)).objs.size]}).push {cls:=.type "tuple",data:=.seq #[.none,.none]}
def sP (k1 k2:Bool) (h:Heap) (l1 l2:Addr):Heap:=(BM k1 k2 h l1 l2).push {cls:=.type "zip",data:=.fields #[.none,.bool false,.bool false,.ref (uu k1 k2 h l1 l2).objs.size,.ref ((uu k1 k2 h l1 l2).push {cls:=.type "tuple",data:=.seq #[.ref h.objs.size,.ref (h.push (l8 k1 l1)).objs.size]}).objs.size]}
variable {s:Shared} in
theorem IG(k1 k2:Bool)(l1 l2:Addr)(xs ys:Array Value):
  Meets (Builtin.«zip.__new__» ⟨[.type "zip",.ref l1,.ref l2],[]⟩) (λ_ R s=>lU k1 s.heap l1 xs/\lU k2 s.heap l2 ys/\R (.ok (.ret (.ref (BM k1 k2 s.heap l1 l2).objs.size))) {s with heap:=sP k1 k2 s.heap l1 l2}):=
 .of_wp λprog w A R s h=>by
  obtain⟨hp,g,d,tk,os⟩:=s;obtain⟨c1,c2,h⟩:=h;have JG:=sub_zip;cases k1<;>cases k2
  ·have e1:IsTuple (Shared.heap ⟨hp,g,d,tk,os⟩) l1 xs:=c1;have e2:IsTuple (Shared.heap ⟨hp.push {cls:=.type "tuple_iterator",data:=.fields #[.ref l1,.int 0 0]},g,d,tk,os⟩) l2 ys:=IsTuple.push c2 _;wp_walk using wpAny_pyIter_tuple e1,wpAny_pyIter_tuple e2
   exact⟨_,rfl,h⟩
  ·have e1:IsTuple (Shared.heap ⟨hp,g,d,tk,os⟩) l1 xs:=c1;have e2:IsList (Shared.heap ⟨hp.push {cls:=.type "tuple_iterator",data:=.fields #[.ref l1,.int 0 0]},g,d,tk,os⟩) l2 ys:=IsList.push c2 _;wp_walk using wpAny_pyIter_tuple e1,wpAny_pyIter_list e2
   exact⟨_,rfl,h⟩
  ·have e1:IsList (Shared.heap ⟨hp,g,d,tk,os⟩) l1 xs:=c1;have e2:IsTuple (Shared.heap ⟨hp.push {cls:=.type "list_iterator",data:=.fields #[.ref l1,.int 0 0]},g,d,tk,os⟩) l2 ys:=IsTuple.push c2 _;wp_walk using wpAny_pyIter_list e1,wpAny_pyIter_tuple e2
   exact⟨_,rfl,h⟩
  ·have e1:IsList (Shared.heap ⟨hp,g,d,tk,os⟩) l1 xs:=c1;have e2:IsList (Shared.heap ⟨hp.push {cls:=.type "list_iterator",data:=.fields #[.ref l1,.int 0 0]},g,d,tk,os⟩) l2 ys:=IsList.push c2 _;wp_walk using wpAny_pyIter_list e1,wpAny_pyIter_list e2
   exact⟨_,rfl,h⟩
variable {s:Shared} in
theorem Ie(c1:lU k1 s.heap l1 xs)(c2:lU k2 s.heap l2 ys)(h:∀h' z TI TO i1 i2,ZipApart z TI TO i1 i2 l1 l2->LW h' z TI TO i1 i2 .none .none .none->j7 k1 h' i1 l1 0->j7 k2 h' i2 l2 0->(∀c o,s.heap.get? c=some o->h'.get? c=some o)->(∀b∈[z,TI,TO,i1,i2],s.heap.objs.size<=b)->Q (.ref z) {s with heap:=h'}):
  wpAny (model prog w) A (call (.type "zip") [.ref l1,.ref l2]) Q E s:=by
 obtain⟨o1,p1⟩:=c1.obj;obtain⟨o2,p2⟩:=c2.obj;refine callType_new F.called_zip (by decide) (F.typeCall_zip_2 _ _) (F.newCall_zip_2 _ _) (λobj=>F.args_object_init_3 obj _ _) F.entry_zip_new (IG k1 k2 l1 l2 xs ys) ⟨c1,c2,?_⟩;generalize hn:s.heap.objs.size=n;have X5:l1<n:=hn▸lt_size p1;have TU:l2<n:=hn▸lt_size p2;have y1:(s.heap.push (l8 k1 l1)).objs.size=n+1:=by rw[size_push,hn]
 have y2:(uu k1 k2 s.heap l1 l2).objs.size=n+2:=by unfold uu;rw[size_push,y1]
 have y3:((uu k1 k2 s.heap l1 l2).push {cls:=.type "tuple",data:=.seq #[.ref s.heap.objs.size,.ref (s.heap.push (l8 k1 l1)).objs.size]}).objs.size=n+3:=by rw[size_push,y2]
 have y4:(BM k1 k2 s.heap l1 l2).objs.size=n+4:=by unfold BM;rw[size_push,y3]
 have Od:∀c o,(BM k1 k2 s.heap l1 l2).get? c=some o->(sP k1 k2 s.heap l1 l2).get? c=some o:=λc o e=>get?_push_of_some _ e;have Oe:∀c o,(uu k1 k2 s.heap l1 l2).get? c=some o->(sP k1 k2 s.heap l1 l2).get? c=some o:=λc o e=>Od c o (get?_push_of_some _ (get?_push_of_some _ e));have f5:(sP k1 k2 s.heap l1 l2).get? (BM k1 k2 s.heap l1 l2).objs.size=some _:=get?_push_size _ rfl;have f4:(sP k1 k2 s.heap l1 l2).get? ((uu k1 k2 s.heap l1 l2).push {cls:=.type "tuple",data:=.seq #[.ref s.heap.objs.size,.ref (s.heap.push (l8 k1 l1)).objs.size]}).objs.size=some _:=Od _ _ (get?_push_size _ rfl);have f3:(sP k1 k2 s.heap l1 l2).get? (uu k1 k2 s.heap l1 l2).objs.size=some _:=Od _ _ (get?_push_of_some _ (get?_push_size _ rfl));have f2:(sP k1 k2 s.heap l1 l2).get? (s.heap.push (l8 k1 l1)).objs.size=some (l8 k2 l2):=Oe _ _ (get?_push_size _ (by cases k2<;>rfl));have f1:(sP k1 k2 s.heap l1 l2).get? s.heap.objs.size=some (l8 k1 l1):=Oe _ _ (get?_push_of_some _ (get?_push_size _ (by cases k1<;>rfl)));rw[y2,y3,y4]at f5;rw[y3]at f4;rw[y2,y1,hn]at f3;rw[y1]at f2;rw[hn]at f1;have r1:j7 k1 (sP k1 k2 s.heap l1 l2) n l1 0:=by cases k1<;>exact⟨_,f1,rfl,rfl⟩
 have r2:j7 k2 (sP k1 k2 s.heap l1 l2) (n+1) l2 0:=by cases k2<;>exact⟨_,f2,rfl,rfl⟩
 refine(?_:_/\_);rw[y4];refine⟨⟨_,f5,rfl⟩,h _ (n+4) (n+2) (n+3) n (n+1) (zipApart_new X5 TU) ⟨f5,f3,f4⟩ r1 r2 (λc o e=>Oe _ _ (get?_push_of_some _ (get?_push_of_some _ e))) λb hb=>?_⟩;rw[hn];simp only[mem_cons,not_mem_nil,or_false]at hb;rcases hb with e|e|e|e|e<;>(rw[e];first|exact le_refl _|exact Nat.le_add_right _ _)
open PySem PySem.Spec PyProof.Rows L2
open PySem.W (Dat kqdOk)
variable {pins:List (Addr×Obj)}
variable {s:Shared} in
theorem rN{t':Nat}{ch:List Addr}(I:Inv X pins σ H s)(k:∀b o,b∉ch->s.heap.get? b=some o->h'.get? b=some o)(hf:∀b∈ch,pQ X pins H b):Inv X pins σ H {s with heap:=h',toks:=t'}:=by
 have out:∀b u,H b=some u->b∉ch:=λb u e z=>by rw[(hf b z).1]at e;cases e
 refine I.step (g':=s.gens) (d':=s.drawn) (ch:=ch) (λb hb=>?_) (λb o _ _ hc e _=>k b o hc e) (λb o _ _ hc e _=>⟨o.slots,k b o hc e⟩) (λ_ _ _ _ n=>n)
  (λb o hc e=>⟨o,k b o hc e⟩) (λ_ _ e=>e) (λ_ _ _ e=>e) (λb ps e=>⟨#[],by rw[e];simp⟩) (λm hm=>?_) (λb u e=>?_) I.bare
 ·obtain⟨_,f1,_,f3,f4,f5⟩:=hf b hb;exact⟨f3,f1,f4,f5⟩
 ·obtain⟨o,es,ep,ho,r⟩:=hm;exact⟨o,es,ep,k _ o (λz=>(hf _ z).2.1 rfl) ho,r⟩
 ·refine(I.bR b u e).nP (λc v hc q=>k c v (hc.elim (λz=>by rw[z];exact out b u e) λz=>out c _ z) q) (λ_ q=>q) λ_ _ q=>q
def qd (K:Fg):Bool->Hp->Addr->List V->Prop
 |true,H,a,xs=>fk K H a xs
 |false,H,a,xs=>j6 K H a xs
variable {xs:List V}
theorem vQ{σ:L2.St}{s:Shared}(I:Inv X pins σ H s)(h:qd X.K k H a xs):∃aq:List Value,Vals xs aq/\lU k s.heap a aq.toArray:=by
 cases k with
 |true=>obtain⟨aq,r,p,_⟩:=I.list h;exact⟨aq,r,p.isList⟩
 |false=>obtain⟨aq,r,p,_⟩:=I.tuple h;exact⟨aq,r,show s.heap.IsTuple a aq.toArray from p⟩
theorem yW{σ:L2.St}{s:Shared}{ys:List V}(I:Inv X pins σ H s)(h:qd X.K k H a xs)(h':qd X.K k H a ys):xs=ys:=by
 cases k with
 |true=>exact I.tQ h h'
 |false=>exact I.xa h h'
def Vg (K:Fg) (k1 k2:Bool) (a1 a2:Addr):It:=
 ⟨λi H=>∃xs ys x y,qd K k1 H a1 xs/\qd K k2 H a2 ys/\xs[i]?=some x/\ys[i]?=some y,
  λi H v H'=>∃T x y,v=.ref T/\H T=none/\H'=upd H T (.tup [x,y])/\∀xs ys,qd K k1 H a1 xs->qd K k2 H a2 ys->xs[i]?=some x/\ys[i]?=some y,
  λi H=>∃xs ys,qd K k1 H a1 xs/\qd K k2 H a2 ys/\(xs.length<=i\/ys.length<=i)⟩
variable {i3:List Expr} {kt:Nat} {a1:Addr}
theorem IJ{pt:Pos}{a2 TI TO:Addr}(D:ZipApart z TI TO i1 i2 a1 a2):
  Turn P w K (.Tuple i3 kt pt) (Vg K k1 k2 a1 a2) [z,TI,TO,i1,i2] z (λi h=>(∃a b,LW h z TI TO i1 i2 .none a b)/\j7 k1 h i1 a1 i/\j7 k2 h i2 a2 i) where
 mem:=mem_cons_self
 obj:=λi h st b hb=>by
  obtain⟨⟨u,v,Z1,Z2,Z3⟩,w1,w2⟩:=st;simp only[mem_cons,not_mem_nil,or_false]at hb;rcases hb with e|e|e|e|e
  ·rw[e];exact⟨_,Z1,λv z=>nomatch z⟩
  ·rw[e];exact⟨_,Z2,λv z=>nomatch z⟩
  ·rw[e];exact⟨_,Z3,λv z=>nomatch z⟩
  ·rw[e];exact w1.obj
  ·rw[e];exact w2.obj
 keep:=λi h h' st k=>by
  obtain⟨⟨u,v,Z1,Z2,Z3⟩,w1,w2⟩:=st;exact⟨⟨u,v,k z (by simp) _ Z1,k TI (by simp) _ Z2,k TO (by simp) _ Z3⟩,w1.on (k i1 (by simp)),w2.on (k i2 (by simp))⟩
 item:=by
  intro X hP hw hK hc i pins s σ H E I hf st hg;subst hP hw hK;obtain⟨⟨u,v,Z⟩,w1,w2⟩:=st;obtain⟨xs,ys,x,y,c1,c2,hx,hy⟩:=hg;obtain⟨Ec,r1,p1⟩:=vQ I c1;obtain⟨ja,r2,p2⟩:=vQ I c2;obtain⟨ux,Qa,rx⟩:=r1.get hx;obtain⟨uy,Xb,ry⟩:=r2.get hy;have hT:s.TypeIs (.ref z) "zip":=⟨_,Z.1,rfl⟩;have lt:∀b∈[z,TI,TO,i1,i2],b<s.heap.objs.size:=λb hb=>by
   simp only[mem_cons,not_mem_nil,or_false]at hb;rcases hb with e|e|e|e|e
   ·rw[e];exact lt_size Z.1
   ·rw[e];exact lt_size Z.2.1
   ·rw[e];exact lt_size Z.2.2
   ·rw[e];obtain⟨o,q,_⟩:=w1.obj;exact lt_size q
   ·rw[e];obtain⟨o,q,_⟩:=w2.obj;exact lt_size q
  unfold pyNext;refine wpAny_bind (wpAny_attempt (wpAny_callSpecial?_slot (name:=Str.ofString "__next__") hT F.slot_zip_next (wpAny_call_entry F.slot_zip_next hT F.entry_zip_next (Fq D Z w1 w2 p1 p2 (x:=ux) (y:=uy) (by simpa using Qa) (by simpa using Xb) λg b1 b2 b3 b4 b5 b6=>wpAny_pure ?_) (F.args_zip_next_1 _))));refine⟨_,rfl,wpAny_letOwnedTupleGo_zip (s:={s with heap:=g}) b1 λg' b7 b8=>?_⟩;have In:Inv X pins σ (upd H s.heap.objs.size (.tup [x,y])) {s with heap:=s.heap.push {cls:=.type "tuple",data:=.seq #[ux,uy]},toks:=s.toks}:=
   I.laid (t':=s.toks) (λb u e=>get?_push_of_some _ e) (le_refl _) ⟨by show 2<=sizeLine;decide,[ux,uy],.cons rx (.cons ry .nil),⟨_,get?_push_size _ rfl,rfl,_,rfl⟩⟩
  have v3:∀b∈[z,TI,TO,i1,i2],(upd H s.heap.objs.size (.tup [x,y])) b=none:=λb hb=>by
   rw[bB (ne_of_lt (lt b hb))];exact(hf b hb).1
  have cn:∀b,b∉[z,TI,TO,i1,i2]->b≠z/\b≠TO/\b≠i1/\b≠i2:=λb h=>by
   simp only[mem_cons,not_mem_nil,or_false,not_or]at h;exact⟨h.1,h.2.2.1,h.2.2.2.1,h.2.2.2.2⟩
  have nT:s.heap.objs.size≠z:=Nat.ne_of_gt (lt z (by simp));have I3:Inv X pins σ (upd H s.heap.objs.size (.tup [x,y])) {s with heap:=g',toks:=s.toks}:=rN (s:={s with heap:=s.heap.push {cls:=.type "tuple",data:=.seq #[ux,uy]},toks:=s.toks}) (h':=g') (t':=s.toks) (ch:=[z,TI,TO,i1,i2]) In (λb o hb e=>by
   obtain⟨n1,n2,n3,n4⟩:=cn b hb;refine b8.extBut _ _ n1 ?_;rcases Heap.get?_push_cases (show(s.heap.push {cls:=.type "tuple",data:=.seq #[ux,uy]}).get? b=some o from e)with⟨e1,e2⟩|e1
   ·rw[e1,e2];exact b5
   ·exact b6 b o n1 n2 n3 n4 e1) λb hb=>⟨v3 b hb,(hf b hb).2⟩
  refine⟨.ref s.heap.objs.size,upd H s.heap.objs.size (.tup [x,y]),I3,rfl,⟨_,x,y,rfl,I.bR.fresh (le_refl _),rfl,λWE ys' d1 d2=>?_⟩,⟨⟨_,_,b7,b8.extBut _ _ D.TIz (b6 _ _ D.TIz D.TITO D.TIi1 D.TIi2 Z.2.1),b8.extBut _ _ D.TOz b2⟩,b3.on λo e=>b8.extBut _ _ D.i1z e,b4.on λo e=>b8.extBut _ _ D.i2z e⟩,v3⟩;rw[yW I d1 c1,yW I d2 c2];exact⟨hx,hy⟩
 done:=by
  intro X hP hw hK hc i pins s σ H E I hf st hg;subst hP hw hK;obtain⟨⟨u,v,Z⟩,w1,w2⟩:=st;obtain⟨xs,ys,c1,c2,hl⟩:=hg;obtain⟨Ec,r1,p1⟩:=vQ I c1;obtain⟨ja,r2,p2⟩:=vQ I c2;have l1:=r1.length;have l2:=r2.length;have hT:s.TypeIs (.ref z) "zip":=⟨_,Z.1,rfl⟩;have JK:Ec.toArray[i]?=none\/ja.toArray[i]?=none:=hl.elim (λh=>.inl (by simp;omega)) λh=>.inr (by simp;omega);unfold pyNext;refine wpAny_bind (wpAny_attempt (wpAny_callSpecial?_slot (name:=Str.ofString "__next__") hT F.slot_zip_next (wpAny_call_entry F.slot_zip_next hT F.entry_zip_next (Fh (I.ok.hd hc) D Z w1 w2 p1 p2 JK λg e k he=>?_) (F.args_zip_next_1 _))));obtain⟨o,ho,q8⟩:=he;refine wpAny_bind (wpAny_isInstance (T:="StopIteration") (b:=true) ⟨o,ho,q8⟩ isSubtype_stop (wpAny_pure ⟨rfl,?_⟩));exact rN (h':=g) (t':=s.toks) (ch:=[z,TI,TO,i1,i2]) I (λb o hb e=>by
   simp only[mem_cons,not_mem_nil,or_false,not_or]at hb;exact k b o hb.1 hb.2.2.1 hb.2.2.2.1 hb.2.2.2.2 e) hf
 self:=λA i s Q E st h=>wpAny_pyIter_zip st.1.choose_spec.choose_spec.1 h
def VZ (K:Fg) (ta:TA):TI:=λσ H R=>ta σ H λvs H1=>∃k1 k2 a1 a2,vs=[.ref a1,.ref a2]/\(∃xs,qd K k1 H1 a1 xs)/\(∃ys,qd K k2 H1 a2 ys)/\R (Vg K k1 k2 a1 a2) H1
variable {a:Expr} {p:Pos}
theorem P0{pt:Pos}{ta:TA}(hg:Gl X "zip")(hm:X.mg "zip"=none)(ha:PA X [a,b] ta)(hs:starEach [a,b] X.env=[(false,eval a X.env),(false,eval b X.env)]:=by rfl)(Lf:starEach [b] X.env=[(false,eval b X.env)]:=by rfl):
  PI X (.Tuple i3 kt pt) (.Call (.Name "zip" p) [a,b] [] pos) (VZ X.K ta):=by
 intro pins s σ H R I h;refine Call_ (oB I hg hm boot_zip (PyProof.Rows.callWith_type1 (cz (ha pos pins s σ H _ I h) λus s1 ⟨vs,H1,I1,r1,q1⟩=>?_) (by rw[hs,Lf]) (by rw[Lf];rfl)));obtain⟨k1,k2,a1,a2,e,⟨xs,c1⟩,⟨ys,c2⟩,q⟩:=q1;subst e;cases r1 with
 |cons r rr=>
  cases rr with
  |cons r' rr=>
   cases rr;cases r;cases r';obtain⟨Ec,_,p1⟩:=vQ I1 c1;obtain⟨ja,_,p2⟩:=vQ I1 c2;exact Ie p1 p2 λh' z TI TO i1 i2 D Z w1 w2 kk new=>wpAny_pyIter_zip Z.1 ⟨z,[z,TI,TO,i1,i2],_,_,H1,rfl,I1.kept (t':=s1.toks) kk,IJ D,⟨⟨_,_,Z⟩,w1,w2⟩,λb hb=>I1.Aw (new b hb) (I1.bR.fresh (new b hb)),q⟩
def dP:List Dat->List Dat->List Dat
 |x::xs,y::ys=>.tuple [x,y]::dP xs ys
 |_,_=>[]
variable {fs:ax->Option (List Dat)} in
def me (fs:ax->Option (List Dat)):ax->Option (List Dat):=λρ=>(fs ρ).bind λds=>match ds with
 |[d1,d2]=>(dE d1).bind λx=>(dE d2).map λy=>dP x y
 |_=>none
theorem mz:∀{xs ys:List Dat} {i:Nat},(dP xs ys).length=min xs.length ys.length/\∀d,(dP xs ys)[i]?=some d->∃x y,xs[i]?=some x/\ys[i]?=some y/\d=.tuple [x,y]
 |[],ys,i=>⟨by simp[dP],λd h=>by simp[dP]at h⟩
 |x::xs,[],i=>⟨by simp[dP],λd h=>by simp[dP]at h⟩
 |x::xs,y::ys,0=>⟨by
   have:=(mz (xs:=xs) (ys:=ys) (i:=0)).1;simp only[dP,length_cons,this];omega,λd h=>by simp[dP]at h;exact⟨x,y,rfl,rfl,h.symm⟩⟩
 |x::xs,y::ys,i+1=>⟨by
   have:=(mz (xs:=xs) (ys:=ys) (i:=i)).1;simp only[dP,length_cons,this];omega,λd h=>by
   obtain⟨a,b,h1,h2,h3⟩:=(mz (xs:=xs) (ys:=ys) (i:=i)).2 d (by simpa [dP]using h);exact⟨a,b,by simpa using h1,by simpa using h2,h3⟩⟩
theorem zU(r:aS K H Av v d)(h:dE d=some ds):∃k a,v=.ref a/\∀H' Av',aS K H' Av' (.ref a) d->∃xs,qd K k H' a xs/\aB K H' Av' xs ds:=by
 cases d with
 |list dH=>
  cases h;obtain⟨a,xs,rfl,_,_⟩:=r.fq;refine⟨true,a,rfl,λH' Av' r'=>?_⟩;obtain⟨_,xs,e,hq,rs⟩:=r'.fq;cases e;exact⟨xs,hq.sq,rs⟩
 |tuple dH=>
  cases h;obtain⟨a,xs,rfl,_,_⟩:=r.ff;refine⟨false,a,rfl,λH' Av' r'=>?_⟩;obtain⟨_,xs,e,hq,rs⟩:=r'.ff;cases e;exact⟨xs,hq.sq,rs⟩
 |_=>cases h
open PySem PySem.Spec PyProof.Rows L2
open PySem.W (Dat kqdOk)
theorem qm{j:Nat}{aD:List (Option Nat)}(hi:aD[i]?=some none)(hj:aD[j]?=some none):iU (je 2 (cR (aName i) (cR (aName j) jf))) aD:=λd as e p hp=>by
 unfold je at e;split at e
 ·split at e
  ·rename_i ds hl;match ds,hl with
   |[a,b],_=>
    cases e;rcases mem_cons.mp hp with e|hp
    ·rw[e];exact hi
    ·rcases mem_cons.mp hp with e|hp
     ·rw[e];exact hj
     ·simp at hp
  ·cases e
 ·cases e
open PySem PySem.Spec PyProof.Rows L2
open PySem.W (Dat kqdOk)
theorem aB.rep{K:Fg}{H:Hp}{Av:dA}{vs:List V}{ds:List Dat}(h:aB K H Av vs ds):∀k:Nat,aB K H Av (List.replicate k vs).flatten (List.replicate k ds).flatten
 |0=>.nil
 |k+1=>by
  rw[replicate_succ,replicate_succ,flatten_cons,flatten_cons];exact h.append (aB.rep h k)
variable {fb:ax->Option Dat}
variable {fs:ax->Option (List Dat)} in
def ua (fs:ax->Option (List Dat)) (fb:ax->Option Dat):ax->Option (List Dat):=λρ=>(fs ρ).bind λds=>(fb ρ).bind λd=>match d with
 | .int k=>if(-(2^63)<=k/\k<2^63)/\ds.length*k.toNat<=sizeLine then some (List.replicate k.toNat ds).flatten else none
 |_=>none
def yY (i:Nat) (f:ar->Option (List Dat×ar)):ar->Option Fl:=λΓ=>(f Γ).map λp=>.nx (p.2.set i (some (.a8 (.list p.1))))
variable {x:Str} {k:Nat}
theorem ND{fa:Addr}(U:nI K x qual st fa fd)(hm:mg x=some (.ref fa))(hB:Binds K fd ps []):Dn P w K mg base k x ps n (λ_=>none):=
 ⟨fa,fd,⟨λvs H Q E ⟨_,_,_,_,_,_,h,_⟩=>(by cases h),λA outer s H args us vs Q E _ _ _ _ ⟨_,_,_,_,_,_,h,_⟩=>(by cases h)⟩,hm,U.kp,hB⟩
open PySem PySem.Spec PyProof.Rows L2
open PySem.W (Dat kqdOk)
variable {ts:List Expr} {env:Env}
theorem gP{k}:starEach (.Tuple ts k p::es) env=(false,eval (.Tuple ts k p) env)::starEach es env:=by rw[starEach];intro _ _ h;cases h
theorem bF{op}:starEach (.BinOp a op b p::es) env=(false,eval (.BinOp a op b p) env)::starEach es env:=by rw[starEach];intro _ _ h;cases h
theorem vP{op}:starEach (.UnaryOp op a p::es) env=(false,eval (.UnaryOp op a p) env)::starEach es env:=by rw[starEach];intro _ _ h;cases h
theorem b9:starEach (.Subscript a b p::es) env=(false,eval (.Subscript a b p) env)::starEach es env:=by rw[starEach];intro _ _ h;cases h
theorem aV{ks}:starEach (.Call a ts ks p::es) env=(false,eval (.Call a ts ks p) env)::starEach es env:=by rw[starEach];intro _ _ h;cases h
theorem jo{os}:starEach (.Compare a os ts p::es) env=(false,eval (.Compare a os ts p) env)::starEach es env:=by rw[starEach];intro _ _ h;cases h
open PySem PySem.Spec PyProof.Rows L2
open PySem.W (Dat kqdOk)
structure QE (X:Cx) (e:Expr) (t:TE):Prop where
 o:PE X e t
structure QT (X:Cx) (e:Expr) (t:TT):Prop where
 o:PT X e t
structure QW (X:Cx) (e:Expr) (t:TT):Prop where
 o:PW X e t
structure QA (X:Cx) (e:List Expr) (t:TA):Prop where
 o:PA X e t
structure QS (X:Cx) (e:Stmt) (t:TS):Prop where
 o:PS X e t
structure YW (X:Cx) (e:List Stmt) (t:TS):Prop where
 o:lF X e t
structure QG (X:Cx) (e:Expr) (t:TG):Prop where
 o:PG X e t
structure Iu (X:Cx) (e:List Expr) (t:qc):Prop where
 o:vC X e t
structure QI (X:Cx) (tg e:Expr) (t:TI):Prop where
 o:PI X tg e t
structure QO (X:Cx) (e:Option Expr) (t:TO):Prop where
 o:PO X e t
structure rE (X:Cx) (e:List Expr) (t:TT):Prop where
 o:rG X e t
abbrev QF (X:Cx) (e:Expr) (f:ax->Option Dat):Prop:=QE X e (tF X.K f)
abbrev i6 (X:Cx) (e:Expr) (f:ax->Option Bool):Prop:=QT X e (iC X.K f)
abbrev Bc (X:Cx) (e:Expr) (f:ax->Option Bool):Prop:=QW X e (iC X.K f)
abbrev kC (X:Cx) (e:List Expr) (f:ax->Option (List Dat)):Prop:=QA X e (KC X.K f)
abbrev dY (X:Cx) (e:Stmt) (f:ar->Option Fl):Prop:=QS X e (yN X.K f)
abbrev hZ (X:Cx) (e:List Stmt) (f:ar->Option Fl):Prop:=YW X e (yN X.K f)
abbrev QH (X:Cx) (e:Expr) (f:HF):Prop:=QE X e (tH X.K f)
abbrev vB (X:Cx) (e:Expr) (f:ar->Option (Bool×ar)):Prop:=QT X e (Kz X.K f)
abbrev LZ (X:Cx) (e:Expr) (f:ar->Option (Bool×ar)):Prop:=QW X e (Kz X.K f)
abbrev td (X:Cx) (e:List Expr) (f:ar->Option (List Dat×ar)):Prop:=QA X e (To X.K f)
abbrev rF (X:Cx) (tg e:Expr) (f:ax->Option (List Dat)):Prop:=QI X tg e (KA X.K f)
abbrev M0 (X:Cx) (e:Option Expr) (f:ax->Option (Option Int)):Prop:=QO X e (Tj X.K f)
theorem a7(i:Nat)(hN:X.N[i]?=some x:=by rfl)(hv:kB X.env.scope x:=by first|exact Or.inl rfl|exact Or.inr (Or.inl rfl)|exact Or.inr (Or.inr rfl))(hd:(x==("__debug__" : Str))=false:=by decide)(fG:(x==("__classdict__" : Str))=false:=by decide):
  QF X (.Name x pos) (aH i):=⟨bo (jT hN hv hd fG) λσ H Q aM=>by
 obtain⟨Av,ρ,d,hA,hE,hf,q⟩:=aM;obtain⟨v,e1,r⟩:=hE i d (join_some hf);exact⟨v,e1,q v H (aQ.refl H) r⟩⟩
theorem ae{i j pos}:
  QF X (.Constant (.int i) j pos) (fC (.int i)):=⟨bo Gm λσ H Q ⟨Av,ρ,d,hA,hE,hf,q⟩=>by cases hf;exact q _ H (aQ.refl H) (.int i)⟩
theorem iI{i j pos}:
  QF X (.Constant (.bool i) j pos) (fC (.bool i)):=⟨bo Sw λσ H Q ⟨Av,ρ,d,hA,hE,hf,q⟩=>by cases hf;exact q _ H (aQ.refl H) (.bl i)⟩
theorem bU{j pos}:
  QF X (.Constant .none j pos) (fC .none):=⟨bo P8 λσ H Q ⟨Av,ρ,d,hA,hE,hf,q⟩=>by cases hf;exact q _ H (aQ.refl H) .bW⟩
theorem cc{i j pos}:
  QF X (.Constant (.str i) j pos) (fC (.str i)):=⟨bo P5 λσ H Q ⟨Av,ρ,d,hA,hE,hf,q⟩=>by cases hf;exact q _ H (aQ.refl H) (.str i)⟩
variable {fa:ax->Option Dat}
theorem fo(ha:QF X a fa)(he:∀whole,isTrue a X.env whole=(do let v <- whole;standAt a.pos;holding [v] (truthy v)):=by intro _;rfl):
  i6 X a (o6 fa):=⟨kM (zk ha.o he) λσ H Q aM=>by
 obtain⟨Av,ρ,b,hA,hE,hf,q⟩:=aM;obtain⟨d,e1,hf⟩:=bind_some hf;exact⟨Av,ρ,d,hA,hE,e1,λv H' s r=>⟨b,FC r hf,q H' s⟩⟩⟩
theorem jE(ha:i6 X a ft):
  Bc X (.BoolOp .And [a] pos) ft:=⟨C8 ha.o⟩
theorem gS(ha:i6 X a ft):
  Bc X (.BoolOp .Or [a] pos) ft:=⟨OX ha.o⟩
variable {gt:ax->Option Bool}
variable {rest:List Expr} in
theorem kI(ha:i6 X a ft)(hb:Bc X (.BoolOp .And (b::rest) pos) gt):
  Bc X (.BoolOp .And (a::b::rest) pos) (mh ft gt):=⟨vZ (Gb ha.o hb.o) λσ H Q aM=>by
 obtain⟨Av,ρ,k,hA,hE,hf,q⟩:=aM;obtain⟨c,e1,hf⟩:=bind_some hf;refine⟨Av,ρ,c,hA,hE,e1,λH1 s1=>?_⟩;cases c with
 |true=>rw[if_pos rfl]at hf ⊢;exact⟨Av,ρ,k,hA.same s1,hE.same s1,hf,λH2 s2=>q H2 (s1.trans s2)⟩
 |false=>rw[if_neg Bool.false_ne_true]at hf ⊢;cases hf;exact q H1 s1⟩
variable {rest:List Expr} in
theorem gC(ha:i6 X a ft)(hb:Bc X (.BoolOp .Or (b::rest) pos) gt):
  Bc X (.BoolOp .Or (a::b::rest) pos) (lI ft gt):=⟨vZ (Sq ha.o hb.o) λσ H Q aM=>by
 obtain⟨Av,ρ,k,hA,hE,hf,q⟩:=aM;obtain⟨c,e1,hf⟩:=bind_some hf;refine⟨Av,ρ,c,hA,hE,e1,λH1 s1=>?_⟩;cases c with
 |false=>rw[if_neg Bool.false_ne_true]at hf ⊢;exact⟨Av,ρ,k,hA.same s1,hE.same s1,hf,λH2 s2=>q H2 (s1.trans s2)⟩
 |true=>rw[if_pos rfl]at hf ⊢;cases hf;exact q H1 s1⟩
theorem fD(h:Bc X e ft):
  i6 X e ft:=⟨h.o.pt⟩
theorem tJ(ha:i6 X a ft):
  i6 X (.UnaryOp .Not a pos) (lj ft):=⟨kM (Gf ha.o) λσ H Q aM=>by
 obtain⟨Av,ρ,k,hA,hE,hf,q⟩:=aM;unfold lj at hf;cases e:ft ρ with
 |none=>rw[e]at hf;cases hf
 |some c=>rw[e]at hf;cases hf;exact⟨Av,ρ,c,hA,hE,e,q⟩⟩
theorem kJ{op}(h:QF X a fa):
  QF X (.BoolOp op [a] pos) fa:=⟨P6 h.o⟩
variable {rest:List Expr} in
theorem kL(ha:QF X a fa)(hb:QF X (.BoolOp .And (b::rest) pos) fb):
  QF X (.BoolOp .And (a::b::rest) pos) (pM fa fb):=⟨bo (P9 ha.o hb.o) λσ H Q aM=>by
 obtain⟨Av,ρ,k,hA,hE,hf,q⟩:=aM;obtain⟨d,e1,Ab⟩:=bind_some hf;clear hf;obtain⟨c,e2,hf⟩:=bind_some Ab;clear Ab;have e3:=n9 e2;subst e3;refine⟨Av,ρ,_,hA,hE,e1,λx H1 s1 r=>⟨c,r.kg,?_⟩⟩;cases c with
 |true=>rw[if_pos rfl]at hf ⊢;exact⟨Av,ρ,k,hA.same s1,hE.same s1,hf,λv H2 s2 r2=>q v H2 (s1.trans s2) r2⟩
 |false=>rw[if_neg Bool.false_ne_true]at hf ⊢;cases hf;exact q _ H1 s1 (.bl false)⟩
variable {rest:List Expr} in
theorem OS(ha:QF X a fa)(hb:QF X (.BoolOp .Or (b::rest) pos) fb):
  QF X (.BoolOp .Or (a::b::rest) pos) (xM fa fb):=⟨bo (Sv ha.o hb.o) λσ H Q aM=>by
 obtain⟨Av,ρ,k,hA,hE,hf,q⟩:=aM;obtain⟨d,e1,Ab⟩:=bind_some hf;clear hf;obtain⟨c,e2,hf⟩:=bind_some Ab;clear Ab;have e3:=n9 e2;subst e3;refine⟨Av,ρ,_,hA,hE,e1,λx H1 s1 r=>⟨c,r.kg,?_⟩⟩;cases c with
 |false=>rw[if_neg Bool.false_ne_true]at hf ⊢;exact⟨Av,ρ,k,hA.same s1,hE.same s1,hf,λv H2 s2 r2=>q v H2 (s1.trans s2) r2⟩
 |true=>rw[if_pos rfl]at hf ⊢;cases hf;exact q _ H1 s1 (.bl true)⟩
theorem MG(ha:QF X a fa):
  QF X (.UnaryOp .Not a pos) (qZ fa):=⟨bo (P7 ha.o) λσ H Q aM=>by
 obtain⟨Av,ρ,k,hA,hE,hf,q⟩:=aM;obtain⟨d,e1,hf⟩:=bind_some hf;cases e2:lE d with
 |none=>rw[e2]at hf;cases hf
 |some c=>
  rw[e2]at hf;cases hf;have e3:=n9 e2;subst e3;exact⟨Av,ρ,_,hA,hE,e1,λx H1 s1 r=>⟨c,r.kg,q _ H1 s1 (.bl _)⟩⟩⟩
variable {c:Expr}
theorem fw(hc:i6 X c ft)(ha:QF X a fa)(hb:QF X b fb):
  QF X (.IfExp c a b pos) (vd ft fa fb):=⟨bo (Jh hc.o ha.o hb.o) λσ H Q aM=>by
 obtain⟨Av,ρ,k,hA,hE,hf,q⟩:=aM;obtain⟨c',e1,hf⟩:=bind_some hf;refine⟨Av,ρ,c',hA,hE,e1,λH1 s1=>?_⟩;cases c' with
 |true=>rw[if_pos rfl]at hf ⊢;exact⟨Av,ρ,k,hA.same s1,hE.same s1,hf,λv H2 s2 r2=>q v H2 (s1.trans s2) r2⟩
 |false=>rw[if_neg Bool.false_ne_true]at hf ⊢;exact⟨Av,ρ,k,hA.same s1,hE.same s1,hf,λv H2 s2 r2=>q v H2 (s1.trans s2) r2⟩⟩
theorem ag:
  kC X [] bS:=⟨rZ mL λσ H Q ⟨Av,ρ,d,hA,hE,hf,q⟩=>by cases hf;exact q _ H (aQ.refl H) .nil⟩
variable {fs:ax->Option (List Dat)} in
theorem a9(ha:QF X e fa)(hr:kC X es fs)(hs:starEach (e::es) X.env=(false,eval e X.env)::starEach es X.env:=by rfl):
  kC X (e::es) (aO fa fs):=⟨rZ (iZ ha.o hr.o hs) λσ H Q aM=>by
 obtain⟨Av,ρ,d,hA,hE,hf,q⟩:=aM;obtain⟨dx,e1,hf⟩:=bind_some hf;obtain⟨ds,e2,hf⟩:=aT hf;subst hf;exact⟨Av,ρ,dx,hA,hE,e1,λx H1 s1 r1=>⟨Av,ρ,ds,hA.same s1,hE.same s1,e2,λxs H2 s2 r2=>q _ H2 (s1.trans s2) (.cons (r1.same s2) r2)⟩⟩⟩
variable {fs:ax->Option (List Dat)} in
theorem c9{k:Nat}(h:kC X es fs){x1}:
  QF X (.Tuple es x1 pos) (kR fs):=⟨bo (Gk h.o) λσ H Q aM=>by
 obtain⟨Av,ρ,d,hA,hE,hf,q⟩:=aM;obtain⟨ds,e1,hf⟩:=bind_some hf;split at hf
 ·rename_i hz;cases hf;exact⟨Av,ρ,ds,hA,hE,e1,λxs H1 s1 r1=>⟨by rw[r1.length];exact hz,λp hp=>q _ _ (s1.trans (bK hp _)) (.tL (hA.same s1) hp r1)⟩⟩
 ·cases hf⟩
variable {fs:ax->Option (List Dat)} in
theorem jG(h:kC X es fs):
  QF X (.List es pos) (o7 fs):=⟨bo (qH h.o) λσ H Q aM=>by
 obtain⟨Av,ρ,d,hA,hE,hf,q⟩:=aM;obtain⟨ds,e1,hf⟩:=bind_some hf;split at hf
 ·rename_i hz;cases hf;exact⟨Av,ρ,ds,hA,hE,e1,λxs H1 s1 r1=>⟨by rw[r1.length];exact hz,λp hp=>q _ _ (s1.trans (bK hp _)) (.nV (hA.same s1) hp r1)⟩⟩
 ·cases hf⟩
variable {F:List Dat->Option Dat}
variable {fs:ax->Option (List Dat)} in
theorem aR(D:Dn X.prog X.w X.K X.mg X.base k x ps n F)(hr:cg k X.A)(ha:kC X (e::es) fs)(hg:Gl X x:=by rfl)(iP:(x==("__debug__" : Str))=false:=by decide)(he:starEach (e::es) X.env=(false,eval e X.env)::starEach es X.env:=by rfl)(dJ:(backTo pos (starEach es X.env)).any (·.1)=false:=by rfl):
  QF X (.Call (.Name x p) (e::es) [] pos) (iR n F fs):=⟨by
 obtain⟨f,fd,h1,h2,h3,h4⟩:=D.ex;exact bo (rY h1 hr hg h2 h3 h4 .nil yu ha.o iP he dJ) Se⟩
theorem ba:
  hZ X [] ir:=⟨zt Ca λD σ H ⟨af,Av,pn,aC,Γ,fl,G,hf,q⟩=>by cases hf;exact q σ H G⟩
variable {g:ar->Option Fl} in
theorem ak(h:dY X st g):
  hZ X [st] g:=⟨w4 h.o⟩
variable {rest:List Stmt} in
theorem ah(h1:dY X st g1)(h2:hZ X rest g2):
  hZ X (st::rest) (cN g1 g2):=⟨zt (zu h1.o h2.o) λD σ H aM=>by
 obtain⟨af,Av,pn,aC,Γ,fl,G,hf,q⟩:=aM;obtain⟨nC,e1,hf⟩:=bind_some hf;refine⟨af,Av,pn,aC,Γ,nC,G,e1,?_⟩;cases nC with
 |nx aj=>exact λbJ H' G'=>⟨af,Av,pn,aC,aj,fl,G',hf,q⟩
 |rt d=>cases hf;exact q
 |bk aj=>cases hf;exact q
 |ct aj=>cases hf;exact q
 |rm d aj=>cases hf;exact q⟩
theorem aJ(h:QF X e f):
  dY X (.Return (some e) pos) (lG f):=⟨bM (qB h.o) λD σ H aM=>by
 obtain⟨af,Av,pn,aC,Γ,fl,⟨ad,G⟩,hf,q⟩:=aM;obtain⟨d,e1,hf⟩:=aT hf;subst hf;exact⟨Av,bE Γ,d,G.fH.same G.same,G.kS,e1,λv H' s r=>q v H' (G.same.trans s) r⟩⟩
theorem bD{a b:List Stmt}(hc:i6 X c ft)(ha:hZ X a g1)(hb:hZ X b g2):
  dY X (.If c a b pos) (iE ft g1 g2):=⟨bM (DW hc.o ha.o hb.o) λD σ H aM=>by
 obtain⟨af,Av,pn,aC,Γ,fl,⟨ad,G⟩,hf,q⟩:=aM;obtain⟨k,e1,hf⟩:=bind_some hf;refine⟨Av,bE Γ,k,G.fH.same G.same,G.kS,e1,λH' s=>?_⟩;cases k with
 |true=>rw[if_pos rfl]at hf ⊢;exact⟨af,Av,pn,aC,Γ,fl,⟨ad,G.grow s⟩,hf,q⟩
 |false=>rw[if_neg Bool.false_ne_true]at hf ⊢;exact⟨af,Av,pn,aC,Γ,fl,⟨ad,G.grow s⟩,hf,q⟩⟩
variable {pos':Pos}
theorem aL(i:Nat)(hN:X.N.Nodup)(h:QF X e f)(hi:X.N[i]?=some x:=by rfl)(hx:Loc X.env.scope x:=by first|exact .inl rfl|exact .inr rfl)(hs:swapsWith e (some (.Name x pos')) pos.line X.env=pure false:=by rfl)(hf:X.fn x=true\/X.env.scope.names.lookup x=some .local:=by first|exact .inl rfl|exact .inr rfl):
  dY X (.Assign [.Name x pos'] e pos) (gB i f):=⟨bM (qA hN hi hx h.o hs hf) Oo⟩
theorem aA(i:Nat)(hN:X.N.Nodup)(hi:X.N[i]?=some x:=by rfl)(hx:Loc X.env.scope x:=by first|exact .inl rfl|exact .inr rfl)(hf:X.fn x=true\/X.env.scope.names.lookup x=some .local:=by first|exact .inl rfl|exact .inr rfl):
  QG X (.Name x pos) (fW X.K (aName i)):=⟨w6 (Cc hN hi hx hf) λv σ H Q ⟨Av,d,as,r,e,q⟩=>by cases e;exact q [(i,v)] (.cons r .nil)⟩
theorem cK:
  Iu X [] (vO X.K jf):=⟨zy MS λvs σ H Q aM=>by
 obtain⟨Av,ds,as,r,e,q⟩:=aM;cases r with
 |nil=>cases e;exact⟨rfl,q [] .nil⟩
 |cons _ _=>cases e⟩
variable {gt:Dat->Option cI} {t6:List Dat->Option cI}
theorem aX(h1:QG X tg (fW X.K gt))(h2:Iu X i3 (vO X.K t6))(hs:(assignEach (tg::i3) X.env).map (·.2)=assign tg X.env::(assignEach i3 X.env).map (·.2):=by rfl):
  Iu X (tg::i3) (vO X.K (cR gt t6)):=⟨zy (Je h1.o h2.o hs) λvs σ H Q aM=>by
 obtain⟨Av,ds,as,r,e,q⟩:=aM;cases r with
 |nil=>cases e
 | @cons v WI d dH rd rr=>
  obtain⟨a,e1,e⟩:=bind_some (show(gt d).bind _=some as from e);obtain⟨b,e2,e⟩:=aT e;subst e;refine⟨v,WI,rfl,Av,d,a,rd,e1,λws hw=>⟨Av,dH,b,rr,e2,λus hu=>?_⟩⟩;have:=q (ws++us) (hw.append hu);unfold nQ at this ⊢;rw[List.foldl_append]at this;exact this⟩
theorem fm(hc:X.calm=true)(h:Iu X i3 (vO X.K t6))(hn:(assignEach i3 X.env).length=n:=by rfl)(hst:(assignEach i3 X.env).findIdx? (·.1)=none:=by rfl):
  QG X (.Tuple i3 k pos) (fW X.K (je n t6)):=⟨w6 (Gh hc h.o hn hst) λv σ H Q aM=>by
 obtain⟨Av,d,as,r,e,q⟩:=aM;unfold je at e;split at e
 ·split at e
  ·rename_i ds hl;obtain⟨a,xs,rfl,hq,rs⟩:=r.ff;exact⟨a,xs,rfl,hq.sq,by rw[rs.length];exact hl,Av,ds,as,rs,e,q⟩
  ·cases e
 ·cases e⟩
theorem IZ(h:QF X e f)(hg:QG X tg (fW X.K gt))(hs:swapsWithSole [tg] e pos.line X.env=pure false:=by rfl)(hw:swappedStores [tg] e X.env=pure none:=by rfl)(h1:(assignEach [tg] X.env).map (·.2)=[assign tg X.env]:=by rfl):
  dY X (.Assign [tg] e pos) (qw gt f):=⟨bM (qE h.o hg.o hs hw h1) λD σ H aM=>by
 obtain⟨af,Av,pn,aC,Γ,fl,⟨ad,G⟩,hf,q⟩:=aM;obtain⟨d,e1,hf⟩:=bind_some hf;obtain⟨as,e2,hf⟩:=aT hf;subst hf;exact⟨bz Av Γ ad,bG Γ,d,G.gu,G.jc,e1,λv H' s r=>⟨bz Av Γ ad,d,as,r,e2,λws hw=>q _ _ ⟨ad,GA.fX hw (λ_ z=>z) (G.grow s)⟩⟩⟩⟩
variable {body:List Stmt}
theorem gR(hp:PassesOwn (model X.prog X.w) X.A X.env X.xe)(hc:X.calm=true)(hi:QF X iter f)(hg:QG X tg (fW X.K gt))(hb:hZ X body gb)(hs:∀x,foldedSetIterable iter X.env x=pure x:=by intro _;rfl):
  dY X (.For tg iter body [] pos) (vV gt gb f):=⟨bM (qC hp hc (oz hi.o) hg.o hb.o hs) λD σ H aM=>by
 obtain⟨af,Av,pn,aC,Γ,fl,⟨ad,G⟩,hf,q⟩:=aM;obtain⟨d,e1,hf⟩:=bind_some hf;obtain⟨ds,e2,hf⟩:=bind_some hf;refine⟨bz Av Γ ad,bG Γ,d,G.gu,G.jc,e1,λx H1 s1 r=>?_⟩;cases d with
 |list dH=>
  cases e2;obtain⟨a,xs,rfl,hq,rs⟩:=r.fq;exact⟨a,rfl,.inl ⟨⟨xs,hq.sq⟩,qV nt ⟨ad,(G.grow s1).hide r⟩ hf q⟩⟩
 |tuple dH=>
  cases e2;obtain⟨a,xs,rfl,hq,rs⟩:=r.ff;exact⟨a,rfl,.inr ⟨⟨xs,hq.sq⟩,qV pf ⟨ad,(G.grow s1).hide r⟩ hf q⟩⟩
 |_=>cases e2⟩
variable {fs:ax->Option (List Dat)} in
theorem p9(hp:PassesOwn (model X.prog X.w) X.A X.env X.xe)(hc:X.calm=true)(hm:X.mg "range"=none)(ha:kC X [a] fs)(hg:QG X tg (fW X.K gt))(hb:hZ X body gb)(Hj:Gl X "range":=by rfl)(hst:starEach [a] X.env=[(false,eval a X.env)]:=by rfl)(hs:∀x,foldedSetIterable (.Call (.Name "range" p) [a] [] pos') X.env x=pure x:=by intro _;rfl):
  dY X (.For tg (.Call (.Name "range" p) [a] [] pos') body [] pos) (uG iF gt gb fs):=⟨bM (qC hp hc (qG Hj hm ha.o hst) hg.o hb.o hs) λD σ H aM=>by
 obtain⟨af,Av,pn,aC,Γ,fl,⟨ad,G⟩,hf,q⟩:=aM;obtain⟨as,e1,hf⟩:=bind_some hf;obtain⟨ds,e2,hf⟩:=bind_some hf;refine⟨Av,bE Γ,as,G.fH.same G.same,G.kS,e1,λvs H1 s1 r=>?_⟩;unfold iF at e2;split at e2
 ·rename_i j;split at e2
  ·rename_i hj;cases e2;obtain⟨v,rfl,rv⟩:=r.dD;rw[rv.d7];exact⟨j,rfl,hj.1,hj.2,qV ph ⟨ad,(G.grow s1).hide .bW⟩ hf q⟩
  ·cases e2
 ·cases e2⟩
theorem uK(fuel:ar->Nat)(hp:PassesOwn (model X.prog X.w) X.A X.env X.xe)(hc:i6 X c ft)(hb:hZ X body gb):
  dY X (.While c body [] pos) (mG fuel ft gb):=⟨bM (J7 hp hc.o hb.o) λD σ H aM=>by
 obtain⟨af,Av,pn,aC,Γ,fl,G,hf,q⟩:=aM;refine⟨λm σ H=>∃Γ,kj X.K af Av pn aC H σ Γ/\fB ft gb m Γ=some fl,⟨_,Γ,G,hf⟩,?_⟩;rintro m σ H ⟨Γ,⟨ad,G⟩,hf⟩;cases m with
 |zero=>cases hf
 |succ m=>
  obtain⟨k,e1,hf⟩:=bind_some (show(ft (bE Γ)).bind _=some fl from hf);refine⟨Av,bE Γ,k,G.fH.same G.same,G.kS,e1,λH1 s1=>?_⟩;cases k with
  |false=>
   rw[if_neg Bool.false_ne_true]at hf ⊢;cases hf;exact q σ H1 ⟨ad,G.grow s1⟩
  |true=>
   rw[if_pos rfl]at hf ⊢;obtain⟨nC,e2,hf⟩:=bind_some hf;refine⟨λbJ H'=>∃aj,kj X.K af Av pn aC H' bJ aj/\fB ft gb m aj=some fl,λbJ H' ⟨aj,G',h'⟩=>⟨m,Nat.lt_succ_self m,aj,G',h'⟩,af,Av,pn,aC,Γ,nC,⟨ad,G.grow s1⟩,e2,?_⟩;cases nC with
   |nx aj=>exact λcP H2 G2=>⟨aj,G2,hf⟩
   |ct aj=>exact λcP H2 G2=>⟨aj,G2,hf⟩
   |bk aj=>cases hf;exact λcP H2 G2=>q cP H2 G2
   |rt v=>cases hf;exact q
   |rm v aj=>cases hf;exact q⟩
variable {fs:ax->Option (List Dat)} in
theorem gm(h:kC X es fs):
  QE X (.List es pos) (ko X.K (oJ fs)):=⟨bo (qH h.o) λσ H Q aM=>by
 obtain⟨Av,ρ,d,hA,hE,hf,q⟩:=aM;obtain⟨ds,e1,hf⟩:=bind_some hf;obtain⟨hz,e2⟩:=wx hf;cases e2;exact⟨Av,ρ,d,hA,hE,e1,λxs H1 s1 r1=>⟨by rw[r1.length];exact hz,λp hp=>q H1 p xs s1 hp r1⟩⟩⟩
variable {fs:ax->Option (List Dat)} in
theorem ju(i:Nat)(hN:X.N.Nodup)(h:QE X e (ko X.K fs))(gM:i≠0:=by decide)(hi:X.N[i]?=some x:=by rfl)(hx:Loc X.env.scope x:=by first|exact .inl rfl|exact .inr rfl)(hs:swapsWith e (some (.Name x pos')) pos.line X.env=pure false:=by rfl)(hf:X.fn x=true\/X.env.scope.names.lookup x=some .local:=by first|exact .inl rfl|exact .inr rfl):
  dY X (.Assign [.Name x pos'] e pos) (oZ i fs):=⟨bM (qA hN hi hx h.o hs hf) λD σ H aM=>by
 obtain⟨af,Av,pn,aC,Γ,fl,⟨ad,G⟩,hf,q⟩:=aM;obtain⟨ds,e1,hf⟩:=aT hf;subst hf;exact⟨bz Av Γ ad,bG Γ,ds,G.gu,G.jc,e1,λH1 p xs s hp r=>q _ _ ⟨_,(G.grow s).yU i gM hp r⟩⟩⟩
variable {p1 p2 p3:Pos}
theorem jj(i:Nat)(h:QF X e f)(hN:X.N[i]?=some x:=by rfl)(hv:kB X.env.scope x:=by first|exact Or.inl rfl|exact Or.inr (Or.inl rfl)|exact Or.inr (Or.inr rfl))(hd:(x==("__debug__" : Str))=false:=by decide)(fG:(x==("__classdict__" : Str))=false:=by decide)(pJ:attributeBase (.Name x p1) "append" X.env (eval (.Name x p1) X.env)=eval (.Name x p1) X.env:=by rfl)(tV:((backTo p3 (starEach [e] X.env)).all (λx=>!x.1)&&(backToKw p3 (keywordEach [] X.env)).all (λx=>x.1.isSome)&&decide (([e]:List Expr).length+([]:List Keyword).length+(if([]:List Keyword).isEmpty then 0 else 1)<30))=true:=by rfl)(pH:(p2.endLine==p3.line)=true:=by rfl)(A1:starEach [e] X.env=(false,eval e X.env)::starEach [] X.env:=by rfl)(mP:(backTo p3 (starEach [] X.env)).any (·.1)=false:=by rfl)(hs:swapsWith (.Call (.Attribute (.Name x p1) "append" p2) [e] [] p3) none pos.line X.env=pure false:=by rfl):
  dY X (.Expr (.Call (.Attribute (.Name x p1) "append" p2) [e] [] p3) pos) (tE i f):=⟨bM (w5 (E3 plainAttrs_list PySem.F.slot_list_append PySem.F.type_list_append xu (jT hN hv hd fG) (iZ h.o mL A1) pJ tV pH A1 mP) hs) λD σ H aM=>by
 obtain⟨af,Av,pn,aC,Γ,fl,⟨ad,G⟩,hf,q⟩:=aM;unfold tE at hf;split at hf
 ·rename_i ds hi;obtain⟨d,e1,hf⟩:=bind_some hf;obtain⟨hz,hf⟩:=wx hf;cases hf;obtain⟨xs,g1,g2,g3,g4⟩:=G.own i ds hi;refine⟨_,g1,.inl ⟨rfl,xs,.of g2⟩,bz Av Γ ad,bG Γ,d,G.gu,G.jc,e1,λv H1 s1 r=>?_⟩;have G1:=G.grow s1;obtain⟨yG,k1,k2,k3,k4⟩:=G1.own i ds hi;exact⟨_,yG,v,rfl,rfl,k2,by rw[k3.length];exact hz,q _ _ ⟨ad,G1.change hi (k3.append (.cons r .nil))⟩⟩
 ·cases hf⟩
theorem iK{fa:Addr}{g:ar->Option Fl}(U:nI K x qual st fa fd)(hm:mg x=some (.ref fa))(hB:Binds K fd ps [])(S:fV N ps (aW st))(hn:ps.length=n)(hbody:∀(bC:Value) (A:Around) (outer:List Env) (s:Shared) (H:Hp) (E:XK),cg k (A.deeper (envOfC qual (aW st) s.heap.objs.size fa bC))->hZ (gY gO P w K mg base N qual (aW st) fa bC A outer s H E).ly (df st) g)(hF:∀ds d,ds.length=n->F ds=some d->jq N g ds=some d):
  Dn P w K mg base (k+1) x ps n F:=
 T2 (U:=U) (hm:=hm) (hB:=hB) (S:=S) (hn:=hn) (hbody:=(λa b c d e f g=>(hbody a b c d e f g).o)) (hF:=hF)
theorem cW(ha:QF X a fa)(hb:QF X b fb):
  QF X (.BinOp a .Add b pos) (f2 kU fa fb):=⟨mK (zF.or pv) (by
 intro H Av x y dx dy d Q hA rx ry h q;unfold kU at h;split at h
 ·cases h;exact .inl ⟨_,_,rx.d7,ry.d7,q _ H (aQ.refl H) (.int _)⟩
 ·split at h
  ·rename_i hz;cases h;exact .inr ⟨_,_,rx.iq,ry.iq,hz,q _ H (aQ.refl H) (.str _)⟩
  ·cases h
 ·cases h) ha.o hb.o⟩
theorem i9(ha:QF X a fa)(hb:QF X b fb):
  QF X (.BinOp a .Sub b pos) (f2 DA fa fb):=⟨mK Ce pA ha.o hb.o⟩
theorem bQ(ha:QF X a fa)(hb:QF X b fb):
  QF X (.BinOp a .Mult b pos) (f2 iM fa fb):=⟨mK Cf pA ha.o hb.o⟩
theorem kK(ha:QF X a fa)(hb:QF X b fb):
  QF X (.BinOp a .Mod b pos) (f2 zN fa fb):=⟨mK Jk pA ha.o hb.o⟩
theorem ou(ha:QF X a fa)(hb:QF X b fb):
  QF X (.BinOp a .Pow b pos) (f2 J9 fa fb):=⟨mK Pg pA ha.o hb.o⟩
theorem OU(ha:QF X a fa)(hb:QF X b fb):
  QF X (.Compare a [.Lt] [b] pos) (f2 L5 fa fb):=⟨oA KU sf ha.o hb.o (eB _)⟩
theorem OV(ha:QF X a fa)(hb:QF X b fb):
  QF X (.Compare a [.Gt] [b] pos) (f2 CK fa fb):=⟨oA KW sf ha.o hb.o (eB _)⟩
theorem mv(ha:QF X a fa)(hb:QF X b fb):
  i6 X (.Compare a [.Lt] [b] pos) (bY (f2 L5 fa fb)):=⟨gD KU sf ha.o hb.o (eB _)⟩
theorem ME(ha:QF X a fa)(hb:QF X b fb):
  i6 X (.Compare a [.LtE] [b] pos) (bY (f2 TZ fa fb)):=⟨gD Sx sf ha.o hb.o (eB _)⟩
theorem rW(ha:QF X a fa)(hb:QF X b fb):
  i6 X (.Compare a [.Gt] [b] pos) (bY (f2 CK fa fb)):=⟨gD KW sf ha.o hb.o (eB _)⟩
theorem MF(ha:QF X a fa)(hb:QF X b fb):
  i6 X (.Compare a [.GtE] [b] pos) (bY (f2 UC fa fb)):=⟨gD Sy sf ha.o hb.o (eB _)⟩
theorem jF(ha:QF X a fa):
  QF X (.UnaryOp .USub a pos) (f1 nW fa):=⟨Ss Of (by
 intro H Av x dx d Q hA rx h q;unfold nW at h;split at h
 ·cases h;exact⟨_,rx.d7,q _ H (aQ.refl H) (.int _)⟩
 ·cases h) ha.o⟩
theorem iH(hr:cg k X.A)(ha:QF X a fa)(hb:QF X b fb):
  QF X (.Compare a [.Eq] [b] pos) (f2 gi fa fb):=⟨oA (yv.or (uM hr.units)) uN ha.o hb.o (eB _)⟩
theorem OT(hr:cg k X.A)(ha:QF X a fa)(hb:QF X b fb):
  QF X (.Compare a [.NotEq] [b] pos) (f2 ix fa fb):=⟨oA (KS.or (Gq hr.units)) Gw ha.o hb.o (eB _)⟩
theorem cQ(hr:cg k X.A)(ha:QF X a fa)(hb:QF X b fb):
  i6 X (.Compare a [.Eq] [b] pos) (bY (f2 gi fa fb)):=⟨gD (yv.or (uM hr.units)) uN ha.o hb.o (eB _)⟩
theorem fS(hr:cg k X.A)(ha:QF X a fa)(hb:QF X b fb):
  i6 X (.Compare a [.NotEq] [b] pos) (bY (f2 ix fa fb)):=⟨gD (KS.or (Gq hr.units)) Gw ha.o hb.o (eB _)⟩
variable {fs:ax->Option (List Dat)} in
theorem mw(hm:X.mg "abs"=none)(ha:kC X (e::es) fs)(hg:Gl X "abs":=by rfl)(he:starEach (e::es) X.env=(false,eval e X.env)::starEach es X.env:=by rfl)(dJ:(backTo pos (starEach es X.env)).any (·.1)=false:=by rfl):
  QF X (.Call (.Name "abs" p) (e::es) [] pos) (d8 EF fs):=⟨zA Kb Ik hm ha.o hg (by decide +kernel) (by decide) (by decide) he dJ⟩
variable {fs:ax->Option (List Dat)} in
theorem dW(hm:X.mg "len"=none)(ha:kC X (e::es) fs)(hg:Gl X "len":=by rfl)(he:starEach (e::es) X.env=(false,eval e X.env)::starEach es X.env:=by rfl)(dJ:(backTo pos (starEach es X.env)).any (·.1)=false:=by rfl):
  QF X (.Call (.Name "len" p) (e::es) [] pos) (d8 j9 fs):=⟨zA Ka Ii hm ha.o hg (by decide +kernel) (by decide) (by decide) he dJ⟩
variable {fs:ax->Option (List Dat)} in
theorem mI(hm:X.mg "int"=none)(ha:kC X (e::es) fs)(hg:Gl X "int":=by rfl)(he:starEach (e::es) X.env=(false,eval e X.env)::starEach es X.env:=by rfl)(dJ:(backTo pos (starEach es X.env)).any (·.1)=false:=by rfl):
  QF X (.Call (.Name "int" p) (e::es) [] pos) (d8 intD fs):=⟨xp Ih Ij hm ha.o hg (by decide +kernel) (by decide) (by decide) he dJ⟩
theorem fZ(T:String){TS:Str}(hm:X.mg "isinstance"=none)(Lj:X.mg TS=none)(ha:QF X a fa)(hv:bootBuiltins TS=some (.type T):=by decide +kernel)(hg:Gl X "isinstance":=by rfl)(XC:Gl X TS:=by rfl)(hn:TS≠"__name__":=by decide)(iP:(TS==("__debug__" : Str))=false:=by decide)(he:starEach [a,.Name TS p2] X.env=(false,eval a X.env)::starEach [.Name TS p2] X.env:=by rfl)(XF:starEach [.Name TS p2] X.env=(false,eval (.Name TS p2) X.env)::starEach [] X.env:=by rfl)(dJ:(backTo pos (starEach [.Name TS p2] X.env)).any (·.1)=false:=by rfl):
  QF X (.Call (.Name "isinstance" p) [a,.Name TS p2] [] pos) (f1 (oD T) fa):=⟨bo (zC (Bs T) hg hm (by decide +kernel) (iZ ha.o (iZ (MX (v:=.ty T) XC Lj hv rfl hn iP) mL XF) he) (by decide) (by decide) he dJ) λσ H Q aM=>by
  obtain⟨Av,ρ,d,hA,hE,hf,q⟩:=aM;obtain⟨dx,e1,hf⟩:=bind_some hf;obtain⟨k,rfl⟩:=JE hf;exact⟨Av,ρ,dx,hA,hE,e1,λx H1 s1 r1=>⟨Av,x,dx,k,rfl,r1,hf,q _ H1 s1 (.bl k)⟩⟩⟩
theorem ao(ha:QF X a fa)(hb:QF X b fb)(hs:wQ b:=by exact λ_ _=>rfl):
  QF X (.Subscript a b pos) (f2 bf fa fb):=⟨bo (KR (gE.or GQ) ha.o hb.o hs) (yo (by
 intro H Av x y dx dy d Q hA rx ry h q;unfold bf at h;split at h
 ·obtain⟨p,xs,rfl,hq,rs⟩:=rx.fq;obtain⟨v,hv,rv⟩:=rs.gH h;exact .inl ⟨p,xs,_,v,rfl,ry.d7,hq.sq,hv,q v H (aQ.refl H) rv⟩
 ·obtain⟨p,xs,rfl,hq,rs⟩:=rx.ff;obtain⟨v,hv,rv⟩:=rs.gH h;exact .inr ⟨p,xs,_,v,rfl,ry.d7,hq.sq,hv,q v H (aQ.refl H) rv⟩
 ·cases h))⟩
theorem gL:
  M0 X none jW:=⟨Cb MP λσ H Q ⟨Av,ρ,o,hA,hE,hf,q⟩=>by cases hf;exact q H (aQ.refl H)⟩
theorem gK(h:QF X e f):
  M0 X (some e) (jV f):=⟨Cb (MO h.o) λσ H Q aM=>by
 obtain⟨Av,ρ,o,hA,hE,hf,q⟩:=aM;obtain⟨d,e1,hf⟩:=bind_some hf;obtain⟨i,e2,XE⟩:=aT hf;subst XE;have e3:=B3 e2;rw[e3]at e1;exact⟨Av,ρ,_,hA,hE,e1,λx H' s r=>⟨i,r.d7,q H' s⟩⟩⟩
variable {elt:Expr} {ifs:List Expr} {cl:List (Str×Addr)} {N':List Str}
theorem iG{aD:List (Option Nat)}{fi:ax->Option Dat}(hc:X.calm=true)(B:nK X scope cl N' aD)(hi:QF X iter fi)(hg:∀C aw af ex,QG (fP X scope cl N' C aw af ex) tg (fW X.K gt))(ht:∀C aw af ex,rE (fP X scope cl N' C aw af ex) ifs (iC X.K ft))(he:∀C aw af ex,QF (fP X scope cl N' C aw af ex) elt fe)(hT:iU gt aD)(hs:∀x,foldedSetIterable iter X.env x=pure x:=by intro _;rfl):
  QE X (.ListComp elt [⟨tg,iter,ifs,0⟩] scope pos) (ko X.K (kc aD gt ft fe fi)):=⟨bo (w9 hc B (oz hi.o) ((λC aw af ex=>(hg C aw af ex).o)) ((λC aw af ex=>(ht C aw af ex).o)) ((λC aw af ex=>(he C aw af ex).o)) hs) (BU hT)⟩
variable {fs:ax->Option (List Dat)} in
theorem cS(h:QE X e (ko X.K fs)):
  QF X e (fL fs):=⟨bo h.o λσ H Q aM=>by
 obtain⟨Av,ρ,d,hA,hE,hf,q⟩:=aM;obtain⟨ds,e1,hf⟩:=aT hf;subst hf;exact⟨Av,ρ,ds,hA,hE,e1,λH1 p xs s hp r=>q _ _ (s.trans (bK hp _)) (.nV (hA.same s) hp r)⟩⟩
theorem bV:
  rE X [] (iC X.K fK):=⟨λpins s σ H Q I ⟨Av,ρ,b,hA,hE,hf,q⟩=>by cases hf;exact MN pins s σ H Q I (q H (aQ.refl H))⟩
theorem lu(h:i6 X c ft):
  rE X [c] (iC X.K ft):=⟨MM h.o⟩
variable {px:Pos}
variable {fs:ax->Option (List Dat)} in
theorem IY(i j:Nat){y:Str}{py pt:Pos}{kt k2 zo}(hc:X.calm=true)(hN:X.N.Nodup)(CF:i≠j)(ha:kC X [a,b] fs)(hi:X.N[i]?=some x:=by rfl)(hj:X.N[j]?=some y:=by rfl)(hx:X.env.scope.names.lookup x=some .local:=by rfl)(hy:X.env.scope.names.lookup y=some .local:=by rfl)(hw:swappedStores [.Tuple [.Name x px,.Name y py] kt pt] (.Tuple [a,b] k2 zo) X.env=pure (some [x,y]):=by rfl)(hs:swapsWithSole [.Tuple [.Name x px,.Name y py] kt pt] (.Tuple [a,b] k2 zo) pos.line X.env=pure false:=by rfl):
  dY X (.Assign [.Tuple [.Name x px,.Name y py] kt pt] (.Tuple [a,b] k2 zo) pos) (DI i j fs):=⟨bM (OZ hc hN hi hj CF hx hy ha.o hw hs) λD σ H aM=>by
 obtain⟨af,Av,pn,aC,Γ,fl,⟨ad,G⟩,hf,q⟩:=aM;obtain⟨ds,e1,hf⟩:=bind_some hf;refine⟨bz Av Γ ad,bG Γ,ds,G.gu,G.jc,e1,λvs H1 s1 r=>?_⟩;match ds,hf with
 |[d,d'],hf=>
  cases hf;obtain⟨v,u,rfl,rv,ru⟩:=r.gy;exact⟨v,u,rfl,q _ _ ⟨ad,((G.grow s1).set i rv).set j (ru.weak bz.fR)⟩⟩⟩
variable {gz:Pos}
theorem jC(i:Nat){aD:List (Option Nat)}{fi:ax->Option Dat}(hN:X.N.Nodup)(hc:X.calm=true)(B:nK X scope cl N' aD)(hi:QF X iter fi)(hg:∀C aw af ex,QG (fP X scope cl N' C aw af ex) tg (fW X.K gt))(ht:∀C aw af ex,rE (fP X scope cl N' C aw af ex) ifs (iC X.K ft))(he:∀C aw af ex,QF (fP X scope cl N' C aw af ex) elt fe)(hT:iU gt aD)(ky:X.N[i]?=some x:=by rfl)(hx:Loc X.env.scope x:=by first|exact .inl rfl|exact .inr rfl)(k9:swapsWith (.ListComp elt [⟨tg,iter,ifs,0⟩] scope pos) (some (.Name x pos')) gz.line X.env=pure true:=by rfl)(mQ:X.fn x=true\/X.env.scope.names.lookup x=some .local:=by first|exact .inl rfl|exact .inr rfl)(hs:∀x,foldedSetIterable iter X.env x=pure x:=by intro _;rfl):
  dY X (.Assign [.Name x pos'] (.ListComp elt [⟨tg,iter,ifs,0⟩] scope pos) gz) (lW i (kc aD gt ft fe fi)):=⟨bM (rX hc B (oz hi.o) ((λC aw af ex=>(hg C aw af ex).o)) ((λC aw af ex=>(ht C aw af ex).o)) ((λC aw af ex=>(he C aw af ex).o)) hN ky hx k9 mQ hs) λD σ H aM=>by
 obtain⟨af,Av,pn,aC,Γ,fl,⟨ad,G⟩,hf,q⟩:=aM;obtain⟨ds,e1,hf⟩:=aT hf;subst hf;exact BU hT σ H _ ⟨bz Av Γ ad,bG Γ,ds,G.gu,G.jc,e1,λH1 p xs s hp r=>q _ _ ⟨ad,((G.grow s).grow (bK hp _)).set i (.nV (G.grow s).gu hp r)⟩⟩⟩
theorem C7(ha:QF X a fa)(hb:QF X b fb)(hm:behindInMarks .In b=false:=by with_unfolding_all rfl):
  i6 X (.Compare a [.In] [b] pos) (bY (f2 inD fa fb)):=⟨gD (Gu.or Gs) Pk ha.o hb.o hm⟩
theorem fE(ha:QF X a fa)(hb:QF X b fb):
  i6 X (.Compare a [.Is] [b] pos) (bY (f2 jb fa fb)):=⟨gD Gr Cg ha.o hb.o (eB _)⟩
theorem lx(ha:QF X a fa)(hb:QF X b fb):
  i6 X (.Compare a [.IsNot] [b] pos) (bY (f2 j1 fa fb)):=⟨gD N1 Jm ha.o hb.o (eB _)⟩
variable {fs:ax->Option (List Dat)} in
theorem nq(hm:X.mg "list"=none)(ha:kC X (e::es) fs)(hg:Gl X "list":=by rfl)(he:starEach (e::es) X.env=(false,eval e X.env)::starEach es X.env:=by rfl)(dJ:(backTo pos (starEach es X.env)).any (·.1)=false:=by rfl):
  QE X (.Call (.Name "list" p) (e::es) [] pos) (ko X.K λρ=>(fs ρ).bind sj):=⟨bo (qJ B0 hg hm (by decide +kernel) ha.o (by decide) (by decide) he dJ) λσ H Q aM=>by
 obtain⟨Av,ρ,ds,hA,hE,hf,q⟩:=aM;obtain⟨as,e1,hf⟩:=bind_some hf;refine⟨Av,ρ,as,hA,hE,e1,λvs H1 s1 r=>?_⟩;unfold sj at hf;split at hf
 ·cases hf;obtain⟨v,rfl,rv⟩:=r.dD;obtain⟨p,xs,rfl,hq,rs⟩:=rv.fq;exact⟨p,xs,rfl,.inl hq.sq,λl hl=>q H1 l xs s1 hl rs⟩
 ·cases hf;obtain⟨v,rfl,rv⟩:=r.dD;obtain⟨p,xs,rfl,hq,rs⟩:=rv.ff;exact⟨p,xs,rfl,.inr hq.sq,λl hl=>q H1 l xs s1 hl rs⟩
 ·cases hf⟩
variable {fs:ax->Option (List Dat)} in
theorem nr(hm:X.mg "tuple"=none)(ha:kC X (e::es) fs)(hg:Gl X "tuple":=by rfl)(he:starEach (e::es) X.env=(false,eval e X.env)::starEach es X.env:=by rfl)(dJ:(backTo pos (starEach es X.env)).any (·.1)=false:=by rfl):
  QF X (.Call (.Name "tuple" p) (e::es) [] pos) (d8 oh fs):=⟨xp yc Bu hm ha.o hg (by decide +kernel) (by decide) (by decide) he dJ⟩
theorem d6{a:Addr}(hm:X.mg x=some (.ref a))(ht:ModT X.K a ds)(hg:Gl X x:=by rfl)(hd:(x==("__debug__" : Str))=false:=by decide):
  QF X (.Name x p) (fC (.tuple ds)):=⟨by
 obtain⟨xs,o,aq,n,h1,h2,h3,h4,h5,h6⟩:=ht;exact bo (MW (v:=.ref a) hg hm rfl hd) λσ H Q ⟨Av,ρ,d,hA,hE,hf,q⟩=>by cases hf;exact q _ H (aQ.refl H) (.tup (.inr ⟨o,aq,n,h1,h2,h3,h4,h5⟩) (h6 H Av))⟩
theorem az(hP:QF X e f):
  QH X e (fM f):=⟨bo hP.o λσ H Q aM=>by
 obtain⟨af,Av,pn,aC,Γ,ad,d,aj,G,hf,q⟩:=aM;unfold fM at hf;split at hf
 ·rename_i d' e1;cases hf;exact⟨bz Av Γ ad,bG Γ,_,G.gu,G.jc,e1,λv H' s r=>q v H' ad (G.grow s) r⟩
 ·obtain⟨d',e1,hf⟩:=bind_some hf;split at hf
  ·rename_i hs;cases hf;exact⟨Av,bE Γ,_,G.fH.same G.same,G.kS,e1,λv H' s r=>q v H' ad (G.grow s) (r.sc hs)⟩
  ·cases hf⟩
theorem qz(hP:i6 X e ft):
  vB X e (An ft):=⟨kM hP.o λσ H Q aM=>by
 obtain⟨af,Av,pn,aC,Γ,ad,d,aj,G,hf,q⟩:=aM;obtain⟨k,e1,hf⟩:=aT hf;cases hf;exact⟨Av,bE Γ,_,G.fH.same G.same,G.kS,e1,λH' s=>q H' ad (G.grow s)⟩⟩
variable {ht:ar->Option (Bool×ar)}
theorem xo(pa:vB X a ht):
  LZ X (.BoolOp .And [a] pos) ht:=⟨C8 pa.o⟩
theorem tI{rest:List Expr}{hu:ar->Option (Bool×ar)}(pa:vB X a ht)(pb:LZ X (.BoolOp .And (b::rest) pos) hu):
  LZ X (.BoolOp .And (a::b::rest) pos) (El ht hu):=⟨vZ (Gb pa.o pb.o) λσ H Q aM=>by
 obtain⟨af,Av,pn,aC,Γ,ad,d,aj,G,hf,q⟩:=aM;obtain⟨⟨k,Γ1⟩,e1,hf⟩:=bind_some hf;refine⟨af,Av,pn,aC,Γ,ad,k,Γ1,G,e1,λH1 eM G1=>?_⟩;cases k with
 |true=>rw[if_pos rfl]at hf ⊢;exact⟨af,Av,pn,aC,Γ1,eM,d,aj,G1,hf,q⟩
 |false=>rw[if_neg Bool.false_ne_true]at hf ⊢;cases hf;exact q H1 eM G1⟩
theorem G5(h:LZ X e ht):
  vB X e ht:=⟨h.o.pt⟩
theorem ot(pa:QH X a ha)(pb:QH X b hb):
  QH X (.BinOp a .Add b pos) (h2 kU ha hb):=⟨zx (zF.or pv) (by
 intro H Av x y dx dy d Q hA rx ry h q;unfold kU at h;split at h
 ·cases h;exact .inl ⟨_,_,rx.d7,ry.d7,q _ H (aQ.refl H) (.int _)⟩
 ·split at h
  ·rename_i hz;cases h;exact .inr ⟨_,_,rx.iq,ry.iq,hz,q _ H (aQ.refl H) (.str _)⟩
  ·cases h
 ·cases h) pa.o pb.o⟩
theorem oq(pa:QH X a ha)(pb:QH X b hb):
  QH X (.BinOp a .Sub b pos) (h2 DA ha hb):=⟨zx Ce pA pa.o pb.o⟩
theorem MD(pa:QH X a ha)(pb:QH X b hb):
  QH X (.BinOp a .Mult b pos) (h2 iM ha hb):=⟨zx Cf pA pa.o pb.o⟩
theorem G6(hr:cg k X.A)(pa:QH X a ha)(pb:QH X b hb):
  QH X (.Compare a [.Eq] [b] pos) (h2 gi ha hb):=⟨P1 (yv.or (uM hr.units)) uN pa.o pb.o (eB _)⟩
theorem vY(hr:cg k X.A)(pa:QH X a ha)(pb:QH X b hb):
  vB X (.Compare a [.Eq] [b] pos) (yz (h2 gi ha hb)):=⟨MR (yv.or (uM hr.units)) uN pa.o pb.o (eB _)⟩
theorem OR(pa:QH X a ha)(pb:QH X b hb)(hs:wQ b:=by exact λ_ _=>rfl):
  QH X (.Subscript a b pos) (h2 bf ha hb):=⟨bo (KR (gE.or GQ) pa.o pb.o hs) (yn Pj)⟩
theorem aK:
  td X [] pK:=⟨rZ mL λσ H Q ⟨af,Av,pn,aC,Γ,ad,d,aj,G,hf,q⟩=>by cases hf;exact q _ H ad G .nil⟩
variable {hs:ar->Option (List Dat×ar)} {h:HF}
theorem ay(pa:QH X e h)(pr:td X es hs)(hst:starEach (e::es) X.env=(false,eval e X.env)::starEach es X.env:=by rfl):
  td X (e::es) (fN h hs):=⟨rZ (iZ pa.o pr.o hst) λσ H Q aM=>by
 obtain⟨af,Av,pn,aC,Γ,ad,d,aj,G,hf,q⟩:=aM;obtain⟨⟨dx,Γ1⟩,e1,hf⟩:=bind_some hf;obtain⟨⟨ds,qh⟩,e2,hf⟩:=aT hf;cases hf;exact⟨af,Av,pn,aC,Γ,ad,dx,Γ1,G,e1,λx H1 eM G1 r1=>⟨af,Av,pn,(x,dx)::aC,Γ1,eM,ds,qh,G1.hide r1,e2,λvs H2 lT G2 r2=>q (x::vs) H2 lT G2.qi (.cons (G2.aC (x,dx) mem_cons_self) r2)⟩⟩⟩
theorem mr(pa:td X es hs){x1}:
  QH X (.Tuple es x1 pos) (JL hs):=⟨bo (Gk pa.o) λσ H Q aM=>by
 obtain⟨af,Av,pn,aC,Γ,ad,d,aj,G,hf,q⟩:=aM;obtain⟨⟨ds,Γ1⟩,e1,hf⟩:=bind_some hf;split at hf
 ·rename_i hz;cases hf;exact⟨af,Av,pn,aC,Γ,ad,ds,Γ1,G,e1,λxs H1 eM G1 r1=>⟨by rw[r1.length];exact hz,λp hp=>q _ _ eM (G1.grow (bK hp _)) (.tL G1.gu hp r1)⟩⟩
 ·cases hf⟩
theorem rT(pa:td X es hs):
  QH X (.List es pos) (Ao hs):=⟨bo (qH pa.o) λσ H Q aM=>by
 obtain⟨af,Av,pn,aC,Γ,ad,d,aj,G,hf,q⟩:=aM;obtain⟨⟨ds,Γ1⟩,e1,hf⟩:=bind_some hf;split at hf
 ·rename_i hz;cases hf;exact⟨af,Av,pn,aC,Γ,ad,ds,Γ1,G,e1,λxs H1 eM G1 r1=>⟨by rw[r1.length];exact hz,λp hp=>q _ _ eM (G1.grow (bK hp _)) (.nV G1.gu hp r1)⟩⟩
 ·cases hf⟩
theorem uL(D:Dn X.prog X.w X.K X.mg X.base k x ps n F)(hr:cg k X.A)(pa:td X (e::es) hs)(hg:Gl X x:=by rfl)(iP:(x==("__debug__" : Str))=false:=by decide)(he:starEach (e::es) X.env=(false,eval e X.env)::starEach es X.env:=by rfl)(dJ:(backTo pos (starEach es X.env)).any (·.1)=false:=by rfl):
  QH X (.Call (.Name x p) (e::es) [] pos) (QJ n F hs):=⟨by
 obtain⟨f,fd,h1,h2,h3,h4⟩:=D.ex;refine bo (rY h1 hr hg h2 h3 h4 .nil yu pa.o iP he dJ) λσ H Q ⟨af,Av,pn,aC,Γ,ad,d,aj,G,hf,q⟩=>?_;obtain⟨⟨ds,Γ1⟩,e1,hf⟩:=bind_some hf;split at hf
 ·rename_i hl;obtain⟨d',e2,hf⟩:=aT hf;cases hf;exact⟨af,Av,pn,aC,Γ,ad,ds,Γ1,G,e1,λxs H1 eM G1 r1=>⟨_,ds,_,G1.gu,by rw[append_nil];exact r1,hl,e2,λv H2 s2 r2=>q v H2 eM (G1.grow s2) r2⟩⟩
 ·cases hf⟩
theorem bA(i:Nat){y:Str}{F:List Dat->List Dat->Option (Dat×List Dat)}(D:eI X.prog X.w X.K X.mg X.base k x ps n F)(hr:cg k X.A)(pa:td X es hs)(hN:X.N[i]?=some y:=by rfl)(hv:kB X.env.scope y:=by first|exact Or.inl rfl|exact Or.inr (Or.inl rfl)|exact Or.inr (Or.inr rfl))(hd:(y==("__debug__" : Str))=false:=by decide)(fG:(y==("__classdict__" : Str))=false:=by decide)(hg:Gl X x:=by rfl)(iP:(x==("__debug__" : Str))=false:=by decide)(he:starEach (.Name y p1::es) X.env=(false,eval (.Name y p1) X.env)::starEach es X.env:=by rfl)(dJ:(backTo pos (starEach es X.env)).any (·.1)=false:=by rfl):
  QH X (.Call (.Name x p) (.Name y p1::es) [] pos) (tW i n F hs):=⟨by
 obtain⟨f,fd,h1,h2,h3,h4⟩:=D.ex;refine bo (rY h1 hr hg h2 h3 h4 .nil yu (iZ (jT hN hv hd fG) pa.o he) iP he dJ) λσ H Q ⟨af,Av,pn,aC,Γ,ad,d,aj,G,hf,q⟩=>?_;unfold tW at hf;split at hf
 ·rename_i vk gM;obtain⟨⟨us,Γ1⟩,e1,hf⟩:=bind_some hf;dsimp only at hf;split at hf
  ·rename_i ds Lm;split at hf
   ·rename_i hl;obtain⟨⟨d',dH⟩,e2,hf⟩:=aT hf;cases hf;obtain⟨Oa,g1,g2,g3,g4⟩:=G.own i vk gM;refine⟨.ref (ad i),g1,af,Av,pn,aC,Γ,ad,us,Γ1,G,e1,λws H1 eM G1 r1=>?_⟩;obtain⟨yG,k1,k2,k3,k4⟩:=G1.own i ds Lm;have ea:ad i=eM i:=by rw[g1]at k1;injection k1 with k1;injection k1 with k1;injection k1
    exact⟨bz Av Γ1 eM,eM i,ws,yG,ds,us,_,_,by rw[append_nil,ea],G1.gu,.inr ⟨i,_,Lm,rfl,rfl⟩,k2,k3,r1,hl,e2,λv H' ys k hn rl rv=>q v H' eM (G1.lend Lm k hn rl) (rv.weak (bz.set_own Lm))⟩
   ·cases hf
  ·cases hf
 ·cases hf⟩
theorem MJ{fa:Addr}{g:ar->Option Fl}{F:List Dat->List Dat->Option (Dat×List Dat)}(U:nI K x qual st fa fd)(hm:mg x=some (.ref fa))(hB:Binds K fd ps [])(S:fV N ps (aW st))(hn:ps.length=n)(hbody:∀(bC:Value) (A:Around) (outer:List Env) (s:Shared) (H:Hp) (E:XK),cg k (A.deeper (envOfC qual (aW st) s.heap.objs.size fa bC))->hZ (gY gO P w K mg base N qual (aW st) fa bC A outer s H E).ly (df st) g)(hF:∀ds es d dH,es.length+1=n->F ds es=some (d,dH)->runM N g ds es=some (d,dH)):
  eI P w K mg base (k+1) x ps n F:=
 R7 (U:=U) (hm:=hm) (hB:=hB) (S:=S) (hn:=hn) (hbody:=(λa b c d e f g=>(hbody a b c d e f g).o)) (hF:=hF)
theorem eY(i:Nat)(hN:X.N.Nodup)(pe:QH X e h)(hi:X.N[i]?=some x:=by rfl)(hx:Loc X.env.scope x:=by first|exact .inl rfl|exact .inr rfl)(hs:swapsWith e (some (.Name x pos')) pos.line X.env=pure false:=by rfl)(hf:X.fn x=true\/X.env.scope.names.lookup x=some .local:=by first|exact .inl rfl|exact .inr rfl):
  dY X (.Assign [.Name x pos'] e pos) (DH i h):=⟨bM (qA hN hi hx pe.o hs hf) λD σ H aM=>by
 obtain⟨af,Av,pn,aC,Γ,fl,⟨ad,G⟩,hf,q⟩:=aM;obtain⟨⟨d,Γ1⟩,e1,hf⟩:=aT hf;subst hf;exact⟨af,Av,pn,aC,Γ,ad,d,Γ1,G,e1,λv H' fI G' r=>q _ _ ⟨fI,G'.set i r⟩⟩⟩
theorem xn(pe:QH X e h)(hg:QG X tg (fW X.K gt))(hs:swapsWithSole [tg] e pos.line X.env=pure false:=by rfl)(hw:swappedStores [tg] e X.env=pure none:=by rfl)(h1:(assignEach [tg] X.env).map (·.2)=[assign tg X.env]:=by rfl):
  dY X (.Assign [tg] e pos) (DM gt h):=⟨bM (qE pe.o hg.o hs hw h1) λD σ H aM=>by
 obtain⟨af,Av,pn,aC,Γ,fl,⟨ad,G⟩,hf,q⟩:=aM;obtain⟨⟨d,Γ1⟩,e1,hf⟩:=bind_some hf;obtain⟨as,e2,hf⟩:=aT hf;subst hf;exact⟨af,Av,pn,aC,Γ,ad,d,Γ1,G,e1,λv H' fI G' r=>⟨bz Av Γ1 fI,d,as,r,e2,λws hw=>q _ _ ⟨fI,GA.fX hw (λ_ z=>z) G'⟩⟩⟩⟩
theorem eZ(pe:QH X e h):
  dY X (.Return (some e) pos) (oY h):=
 ⟨zv (pe:=pe.o)⟩
theorem p8{a b:List Stmt}(hc:vB X c ht)(pa:hZ X a g1)(pb:hZ X b g2):
  dY X (.If c a b pos) (yZ ht g1 g2):=⟨bM (DW hc.o pa.o pb.o) λD σ H aM=>by
 obtain⟨af,Av,pn,aC,Γ,fl,⟨ad,G⟩,hf,q⟩:=aM;obtain⟨⟨k,Γ1⟩,e1,hf⟩:=bind_some hf;refine⟨af,Av,pn,aC,Γ,ad,k,Γ1,G,e1,λH' fI G'=>?_⟩;cases k with
 |true=>rw[if_pos rfl]at hf ⊢;exact⟨af,Av,pn,aC,Γ1,fl,⟨fI,G'⟩,hf,q⟩
 |false=>rw[if_neg Bool.false_ne_true]at hf ⊢;exact⟨af,Av,pn,aC,Γ1,fl,⟨fI,G'⟩,hf,q⟩⟩
theorem lZ(i:Nat){k:Int}{j2:Nat}(pe:QH X e h)(hN:X.N[i]?=some x:=by rfl)(hv:kB X.env.scope x:=by first|exact Or.inl rfl|exact Or.inr (Or.inl rfl)|exact Or.inr (Or.inr rfl))(hd:(x==("__debug__" : Str))=false:=by decide)(fG:(x==("__classdict__" : Str))=false:=by decide)(ha:∀v,assign (.Subscript (.Name x p1) (.Constant (.int k) j2 p2) p3) X.env v=(do
   let ov <- holding [v] (eval (.Name x p1) X.env);let iv <- holding [v,ov] (eval (.Constant (.int k) j2 p2) X.env);standAt p3
   holding [v,ov,iv] (setItem ov iv v)
   release [v,ov,iv] []):=by intro _;rfl)(hs:swapsWithSole [.Subscript (.Name x p1) (.Constant (.int k) j2 p2) p3] e pos.line X.env=pure false:=by rfl)(hw:swappedStores [.Subscript (.Name x p1) (.Constant (.int k) j2 p2) p3] e X.env=pure none:=by rfl)(h1:(assignEach [.Subscript (.Name x p1) (.Constant (.int k) j2 p2) p3] X.env).map (·.2)=[assign (.Subscript (.Name x p1) (.Constant (.int k) j2 p2) p3) X.env]:=by rfl):
  dY X (.Assign [.Subscript (.Name x p1) (.Constant (.int k) j2 p2) p3] e pos) (qv i k h):=⟨bM (qE pe.o (zz (jT hN hv hd fG) Gm set_list ha) hs hw h1) λD σ H aM=>by
 obtain⟨af,Av,pn,aC,Γ,fl,⟨ad,G⟩,hf,q⟩:=aM;obtain⟨⟨d,Γ1⟩,e1,hf⟩:=bind_some hf;dsimp only at hf;split at hf
 ·rename_i ds hi;obtain⟨j,e2,hf⟩:=aT hf;subst hf;refine⟨af,Av,pn,aC,Γ,ad,d,Γ1,G,e1,λv H' fI G' r=>?_⟩;obtain⟨xs,g1,g2,g3,g4⟩:=G'.own i ds hi;exact⟨_,g1,_,xs,k,j,rfl,rfl,g2,by rw[g3.length];exact e2,q _ _ ⟨fI,G'.change hi (g3.set r)⟩⟩
 ·cases hf⟩
theorem pd(h:QF X iter f):
  rF X tg iter (GW f):=⟨mx (oz h.o) λσ H R aM=>by
 obtain⟨Av,ρ,ds,hA,hE,hf,q⟩:=aM;obtain⟨d,e1,hf⟩:=bind_some hf;refine⟨Av,ρ,d,hA,hE,e1,λx H1 s1 r=>?_⟩;cases d with
 |list dH=>
  cases hf;obtain⟨a,xs,rfl,hq,rs⟩:=r.fq;exact⟨a,rfl,.inl ⟨⟨xs,hq.sq⟩,q _ [_] [_] H1 s1 (.cons r .nil) nt.s⟩⟩
 |tuple dH=>
  cases hf;obtain⟨a,xs,rfl,hq,rs⟩:=r.ff;exact⟨a,rfl,.inr ⟨⟨xs,hq.sq⟩,q _ [_] [_] H1 s1 (.cons r .nil) pf.s⟩⟩
 |_=>cases hf⟩
variable {fs:ax->Option (List Dat)} in
theorem i8(hm:X.mg "range"=none)(ha:kC X [a] fs)(Hj:Gl X "range":=by rfl)(hst:starEach [a] X.env=[(false,eval a X.env)]:=by rfl):
  rF X tg (.Call (.Name "range" p) [a] [] pos') (zX iF fs):=⟨mx (qG Hj hm ha.o hst) λσ H R aM=>by
 obtain⟨Av,ρ,ds,hA,hE,hf,q⟩:=aM;obtain⟨as,e1,e2⟩:=bind_some hf;refine⟨Av,ρ,as,hA,hE,e1,λvs H1 s1 r=>?_⟩;unfold iF at e2;split at e2
 ·rename_i j;split at e2
  ·rename_i hj;cases e2;obtain⟨v,rfl,rv⟩:=r.dD;rw[rv.d7];exact⟨j,rfl,hj.1,hj.2,q _ [.bW] [.none] H1 s1 (.cons .bW .nil) ph.s⟩
  ·cases e2
 ·cases e2⟩
theorem jD(hp:PassesOwn (model X.prog X.w) X.A X.env X.xe)(hc:X.calm=true)(hi:rF X tg iter fi)(hg:QG X tg (fW X.K gt))(hb:hZ X body gb)(hs:∀x,foldedSetIterable iter X.env x=pure x:=by intro _;rfl):
  dY X (.For tg iter body [] pos) (lX gt gb fi):=⟨bM (qC hp hc hi.o hg.o hb.o hs) λD σ H aM=>by
 obtain⟨af,Av,pn,aC,Γ,fl,⟨ad,G⟩,hf,q⟩:=aM;obtain⟨ds,e1,hf⟩:=bind_some hf;exact⟨bz Av Γ ad,bG Γ,ds,G.gu,G.jc,e1,λJ xs j5 H1 s1 rx ov=>vc ov (G.grow s1) rx hf q⟩⟩
theorem gT{aD:List (Option Nat)}(hc:X.calm=true)(B:nK X scope cl N' aD)(hi:rF X tg iter fi)(hg:∀C aw af ex,QG (fP X scope cl N' C aw af ex) tg (fW X.K gt))(ht:∀C aw af ex,rE (fP X scope cl N' C aw af ex) ifs (iC X.K ft))(he:∀C aw af ex,QF (fP X scope cl N' C aw af ex) elt fe)(hT:iU gt aD)(hs:∀x,foldedSetIterable iter X.env x=pure x:=by intro _;rfl):
  QE X (.ListComp elt [⟨tg,iter,ifs,0⟩] scope pos) (ko X.K (gh aD gt ft fe fi)):=⟨bo (w9 hc B hi.o ((λC aw af ex=>(hg C aw af ex).o)) ((λC aw af ex=>(ht C aw af ex).o)) ((λC aw af ex=>(he C aw af ex).o)) hs) (rO hT)⟩
variable {fs:ax->Option (List Dat)} in
theorem kH{pt:Pos}(hm:X.mg "zip"=none)(ha:kC X [a,b] fs)(hg:Gl X "zip":=by rfl)(hs:starEach [a,b] X.env=[(false,eval a X.env),(false,eval b X.env)]:=by rfl)(Lf:starEach [b] X.env=[(false,eval b X.env)]:=by rfl):
  rF X (.Tuple i3 kt pt) (.Call (.Name "zip" p) [a,b] [] pos) (me fs):=⟨mx (P0 hg hm ha.o hs Lf) λσ H R aM=>by
 obtain⟨Av,ρ,ds,hA,hE,hf,q⟩:=aM;obtain⟨as,e1,hf⟩:=bind_some hf;refine⟨Av,ρ,as,hA,hE,e1,λvs H1 s1 r=>?_⟩;match as,hf,r with
 |[d1,d2],hf,r=>
  obtain⟨x,f1,hf⟩:=bind_some hf;obtain⟨y,f2,hf⟩:=aT hf;subst hf;obtain⟨v,u,rfl,rv,ru⟩:=r.gy;obtain⟨k1,a1,rfl,g1⟩:=zU rv f1;obtain⟨k2,a2,rfl,g2⟩:=zU ru f2;obtain⟨xs,c1,_⟩:=g1 H1 Av rv;obtain⟨ys,c2,_⟩:=g2 H1 Av ru;refine⟨k1,k2,a1,a2,rfl,⟨xs,c1⟩,⟨ys,c2⟩,q _ [.ref a1,.ref a2] [d1,d2] H1 s1 r λi H Av' rr=>?_⟩;obtain⟨v',u',e,FL,WY⟩:=rr.gy;cases e;obtain⟨xs,c1,rx⟩:=g1 H Av' FL;obtain⟨ys,c2,ry⟩:=g2 H Av' WY;refine⟨λhl=>⟨xs,ys,c1,c2,?_⟩,λdi hd=>?_⟩
  ·rw[(mz (i:=0)).1]at hl;rw[rx.length,ry.length];omega
  ·obtain⟨dx,dy,h1,h2,rfl⟩:=(mz (xs:=x) (ys:=y) (i:=i)).2 di hd;obtain⟨vx,hx,OF⟩:=rx.get h1;obtain⟨vy,hy,WX⟩:=ry.get h2;refine⟨⟨xs,ys,vx,vy,c1,c2,hx,hy⟩,λz H' Qw hz=>?_⟩;obtain⟨T,x',y',rfl,hT,rfl,hh⟩:=hz;obtain⟨h3,h4⟩:=hh xs ys c1 c2;rw[hx]at h3;rw[hy]at h4;cases h3;cases h4;exact⟨bK hT _,.tL Qw hT (.cons OF (.cons WX .nil))⟩⟩
variable {fs:ax->Option (List Dat)} in
theorem zj(ha:QE X a (ko X.K fs))(hb:QF X b fb):
  QE X (.BinOp a .Mult b pos) (ko X.K (ua fs fb)):=⟨bo (E1 Pf ha.o hb.o) λσ H Q aM=>by
 obtain⟨Av,ρ,out,hA,hE,hf,q⟩:=aM;obtain⟨ds,e1,hf⟩:=bind_some hf;obtain⟨d,e2,hf⟩:=bind_some hf;split at hf
 ·rename_i k;split at hf
  ·rename_i hk;cases hf;refine⟨Av,ρ,ds,hA,hE,e1,λH1 p xs s1 hp r=>?_⟩;have s2:=bK hp (.lst xs);refine⟨Av,ρ,.int k,hA.same (s1.trans s2),hE.same (s1.trans s2),e2,λy H2 s3 ry=>?_⟩;exact⟨p,k,xs,rfl,ry.d7,s3 p _ dC,hk.1.1,hk.1.2,by rw[r.length];exact hk.2,λq' hq=>q H2 q' _ (s1.trans (s2.trans s3)) hq ((r.same (s2.trans s3)).rep _)⟩
  ·cases hf
 ·cases hf⟩
theorem p7(i:Nat){aD:List (Option Nat)}(hN:X.N.Nodup)(hc:X.calm=true)(B:nK X scope cl N' aD)(hi:rF X tg iter fi)(hg:∀C aw af ex,QG (fP X scope cl N' C aw af ex) tg (fW X.K gt))(ht:∀C aw af ex,rE (fP X scope cl N' C aw af ex) ifs (iC X.K ft))(he:∀C aw af ex,QF (fP X scope cl N' C aw af ex) elt fe)(hT:iU gt aD)(ky:X.N[i]?=some x:=by rfl)(hx:Loc X.env.scope x:=by first|exact .inl rfl|exact .inr rfl)(k9:swapsWith (.ListComp elt [⟨tg,iter,ifs,0⟩] scope pos) (some (.Name x pos')) gz.line X.env=pure true:=by rfl)(mQ:X.fn x=true\/X.env.scope.names.lookup x=some .local:=by first|exact .inl rfl|exact .inr rfl)(hs:∀x,foldedSetIterable iter X.env x=pure x:=by intro _;rfl):
  dY X (.Assign [.Name x pos'] (.ListComp elt [⟨tg,iter,ifs,0⟩] scope pos) gz) (lW i (gh aD gt ft fe fi)):=⟨bM (rX hc B hi.o ((λC aw af ex=>(hg C aw af ex).o)) ((λC aw af ex=>(ht C aw af ex).o)) ((λC aw af ex=>(he C aw af ex).o)) hN ky hx k9 mQ hs) λD σ H aM=>by
 obtain⟨af,Av,pn,aC,Γ,fl,⟨ad,G⟩,hf,q⟩:=aM;obtain⟨ds,e1,hf⟩:=aT hf;subst hf;exact rO hT σ H _ ⟨bz Av Γ ad,bG Γ,ds,G.gu,G.jc,e1,λH1 p xs s hp r=>q _ _ ⟨ad,((G.grow s).grow (bK hp _)).set i (.nV (G.grow s).gu hp r)⟩⟩⟩
theorem OW{fa:Addr}{g:ar->Option Fl}(U:nI K x qual st fa fd)(S:fV N ps (aW st))(hn:ps.length=n)(hbody:∀(bC:Value) (A:Around) (outer:List Env) (s:Shared) (H:Hp) (E:XK),cg k (A.deeper (envOfC qual (aW st) s.heap.objs.size fa bC))->hZ (gY gO P w K mg base N qual (aW st) fa bC A outer s H E).ly (df st) g)(hF:∀ds d,ds.length=n->F ds=some d->jq N g ds=some d):gn P w K mg base gO (k+1) fa fd ps (FF K n F):=by
 have dJ:ps.length<=N.length:=by have:=congrArg List.length S.pre;rw[length_take]at this;omega
 refine U.ok S (λvs H Q E h=>?_) (λbC A outer s H vs Q E hr h=>?_)
 ·obtain⟨Av,ds,d,_,r,hl,_⟩:=h;rw[r.length,hl,hn]
 ·obtain⟨Av,ds,d,hA,r,hl,hd,q⟩:=h;have dM:=hF ds d hl hd;unfold jq at dM;refine⟨_,(hbody bC A outer s H E hr).o,?_⟩;cases hg:g (cy N ds)with
  |none=>rw[hg]at dM;cases dM
  |some fl=>
   refine⟨H,Av,none,[],cy N ds,fl,tY hA r (by omega),hg,?_⟩;rw[hg]at dM;cases fl with
   |nx Γ=>cases dM;exact λbJ H' ⟨ad,G⟩=>q _ H' G.same .bW
   |rt d'=>cases dM;exact λv H' s r=>q v H' s r
   |bk Γ=>cases dM
   |ct Γ=>cases dM
   |rm d' Γ=>cases dM
open PySem PySem.Spec PyProof.Rows L2
open PySem.W (Dat kqdOk)
def xh:Dat->Option Int->Option Int->Option Dat
 | .list ds,lo,hi=>some (.list (cutD ds lo hi))
 | .tuple ds,lo,hi=>if ¬(HT.cw ds.length 0 lo=0/\HT.cw ds.length ds.length hi=ds.length)then some (.tuple (cutD ds lo hi))else none
 |_,_,_=>none
def lH (f:ax->Option Dat) (fl fh:ax->Option (Option Int)):ax->Option Dat:=λρ=>(f ρ).bind λd=>(fl ρ).bind λl=>(fh ρ).bind λh=>xh d l h
theorem Gj{lo hi:Option Expr}{fl fh:ax->Option (Option Int)}(h:PF X e f)(hl:V5 X lo fl)(hh:V5 X hi fh):PF X (.Subscript e (.Slice lo hi none p2) pos) (lH f fl fh):=bo (Jg (Ms.or Oy) h hl hh) λσ H Q aM=>by
 obtain⟨Av,ρ,d,hA,hE,hf,q⟩:=aM;obtain⟨dx,e1,hf⟩:=bind_some hf;obtain⟨l,e2,hf⟩:=bind_some hf;obtain⟨u,e3,hf⟩:=bind_some hf;refine⟨Av,ρ,_,hA,hE,e1,λx H1 s1 r1=>⟨Av,ρ,l,hA.same s1,hE.same s1,e2,λH2 s2=>⟨Av,ρ,u,hA.same (s1.trans s2),hE.same (s1.trans s2),e3,λH3 s3=>?_⟩⟩⟩;have sa:=s1.trans (s2.trans s3);unfold xh at hf;split at hf
 ·cases hf;obtain⟨a,xs,rfl,hq,rs⟩:=(r1.same (s2.trans s3)).fq;refine .inl ⟨a,xs,rfl,hq.sq,λp hp=>q _ _ (sa.trans (bK hp _)) (.nV (hA.same sa) hp ?_)⟩;unfold rq cutD;rw[rs.length];exact(rs.drop _).take _
 ·split at hf
  ·rename_i hw;cases hf;obtain⟨a,xs,rfl,hq,rs⟩:=(r1.same (s2.trans s3)).ff;refine .inr ⟨a,xs,rfl,hq.sq,by rw[rs.length];exact hw,λp hp=>q _ _ (sa.trans (bK hp _)) (.tL (hA.same sa) hp ?_)⟩;unfold rq cutD;rw[rs.length];exact(rs.drop _).take _
  ·cases hf
 ·cases hf
theorem fY{lo hi:Option Expr}{fl fh:ax->Option (Option Int)}(h:QF X e f)(hl:M0 X lo fl)(hh:M0 X hi fh):QF X (.Subscript e (.Slice lo hi none p2) pos) (lH f fl fh):=⟨Gj h.o hl.o hh.o⟩
def KO (K:Fg):R2:=λx y H Q=>∃l b xs zs,x=.ref l/\y=.ref b/\j6 K H l xs/\j6 K H b zs/\xs.length+zs.length<=sizeLine/\(xs=[]->Q (.ref b) H)/\(xs≠[]->zs=[]->Q (.ref l) H)/\(xs≠[]->zs≠[]->∀p,H p=none->Q (.ref p) (upd H p (.tup (xs++zs))))
theorem N2:dO X (binaryOp .Add) (KO X.K):=by
 intro pins s σ H x y v u Q I rx ry h;obtain⟨l,b,xs,zs,rfl,rfl,hH,hB,hz,q0,q1,q2⟩:=h;cases rx;cases ry;obtain⟨aq,r,p1,_⟩:=I.tuple hH;obtain⟨ja,r2,p2,_⟩:=I.tuple hB;obtain⟨⟨cls,dd,data,sl⟩,ho,hc,n,hd⟩:=p1;obtain⟨⟨Ww,HR,data2,FH⟩,qS,Ag,n2,hd2⟩:=p2;simp only at hc hd Ag hd2;subst hc hd Ag hd2;have h1:=r.length;have h2:=r2.length;have e:aq.toArray++ja.toArray=(aq++ja).toArray:=by simp
 have nf:=PySem.noFill_tuple_add;have sa:=PySem.seq_tuple_add;by_cases hv:aq=[]
 ·have hx:xs=[]:=r.sh.mp hv;exact concat_meets ⟨_,ho,rfl⟩ ⟨_,qS,rfl⟩ nf sa F.slot_tuple_add F.entry_tuple_add (F.args_tuple_add_2 _ _) (tuple_addW0 l b aq.toArray ja.toArray n n2 dd HR sl FH (by simp[hv])) ⟨ho,qS,⟨.ref b,H,I,rfl,q0 hx⟩⟩
 ·have hx:xs≠[]:=λz=>hv (r.sh.mpr z);by_cases hw:ja=[]
  ·have hy:zs=[]:=r2.sh.mp hw;exact concat_meets ⟨_,ho,rfl⟩ ⟨_,qS,rfl⟩ nf sa F.slot_tuple_add F.entry_tuple_add (F.args_tuple_add_2 _ _) (tuple_addW1 l b aq.toArray ja.toArray n n2 dd HR sl FH (by simpa using hv) (by simp[hw])) ⟨ho,qS,⟨.ref l,H,I,rfl,q1 hx hy⟩⟩
  ·have hy:zs≠[]:=λz=>hw (r2.sh.mpr z);refine concat_meets ⟨_,ho,rfl⟩ ⟨_,qS,rfl⟩ nf sa F.slot_tuple_add F.entry_tuple_add (F.args_tuple_add_2 _ _) (tuple_addW2 l b aq.toArray ja.toArray n n2 dd HR sl FH (by simpa using hv) (by simpa using hw) (by rw[size_toArray,size_toArray];omega)) ⟨ho,qS,?_⟩;rw[e];refine⟨.ref s.heap.objs.size,upd H s.heap.objs.size (.tup (xs++zs)),I.laid (t':=s.toks) (λb u e=>get?_push_of_some _ e) (le_refl _) ?_,rfl,q2 hx hy _ I.fresh⟩;exact⟨by rw[length_append];exact hz,_,r.append r2,⟨_,get?_push_size _ rfl,rfl,_,rfl⟩⟩
def uh:Dat->Dat->Option Dat
 | .list xs,.list ys=>if xs.length+ys.length<=sizeLine then some (.list (xs++ys))else none
 | .tuple xs,.tuple ys=>if xs.length+ys.length<=sizeLine then some (.tuple (xs++ys))else none
 |x,y=>kU x y
theorem Jn:kh X.K (λx y H Q=>(KP X.K x y H Q\/KO X.K x y H Q)\/((∃i j,x=.int i/\y=.int j/\Q (.int (i+j)) H)\/∃i j,x=.str i/\y=.str j/\i.length+j.length<=sizeLine/\Q (.str (i++j)) H)) uh:=by
 intro H Av x y dx dy d Q hA rx ry h q;unfold uh at h;split at h
 ·split at h
  ·rename_i hz;cases h;obtain⟨l,xs,rfl,hq,rs⟩:=rx.fq;obtain⟨m,ys,rfl,CC,uI⟩:=ry.fq;exact .inl (.inl ⟨l,m,xs,ys,rfl,rfl,hq.sq,CC.sq,by rw[rs.length,uI.length];exact hz,λp hp=>q _ _ (bK hp _) (.nV hA hp (rs.append uI))⟩)
  ·cases h
 ·split at h
  ·rename_i hz;cases h;obtain⟨l,xs,rfl,hq,rs⟩:=rx.ff;obtain⟨m,ys,rfl,CC,uI⟩:=ry.ff;refine .inl (.inr ⟨l,m,xs,ys,rfl,rfl,hq.sq,CC.sq,by rw[rs.length,uI.length];exact hz,λe=>?_,λ_ e=>?_,λ_ _ p hp=>q _ _ (bK hp _) (.tL hA hp (rs.append uI))⟩)
   ·subst e;cases rs;exact q _ H (aQ.refl H) (.tup CC uI)
   ·subst e;cases uI;rw[append_nil]at q;exact q _ H (aQ.refl H) (.tup hq rs)
  ·cases h
 ·unfold kU at h;split at h
  ·cases h;exact .inr (.inl ⟨_,_,rx.d7,ry.d7,q _ H (aQ.refl H) (.int _)⟩)
  ·split at h
   ·rename_i hz;cases h;exact .inr (.inr ⟨_,_,rx.iq,ry.iq,hz,q _ H (aQ.refl H) (.str _)⟩)
   ·cases h
  ·cases h
theorem iJ(pa:QF X a fa)(pb:QF X b fb):QF X (.BinOp a .Add b pos) (f2 uh fa fb):=⟨mK ((N3.or N2).or (zF.or pv)) Jn pa.o pb.o⟩
theorem MH(pa:QF X a fa)(pb:QF X b fb):QF X (.Compare a [.Is] [b] pos) (f2 jb fa fb):=⟨oA Gr Cg pa.o pb.o (eB _)⟩
open PySem PySem.Spec PyProof.Rows L2
open PySem.W (Dat kqdOk)
def AN (h:Heap) (l:Addr):Heap:=h.push {cls:=.type "list_iterator",data:=.fields #[.ref l,.int 0 0]}
theorem HD(l:Addr)(aq:Array Value):Meets (Builtin.«enumerate.__new__» ⟨[.type "enumerate",.ref l],[]⟩) (λ_ R s=>s.heap.IsList l aq/\R (.ok (.ret (.ref (AN s.heap l).objs.size))) {s with heap:=(AN s.heap l).push {cls:=.type "enumerate",data:=.fields #[.none,.bool false,.ref s.heap.objs.size,rawInt 0,.none,.none]}}):=
 .of_wp λprog w A R s h=>by
  obtain⟨hp,g,d,tk,os⟩:=s;obtain⟨c1,h⟩:=h;have JG:=sub_enumerate;have e1:IsList (Shared.heap ⟨hp,g,d,tk,os⟩) l aq:=c1;wp_walk using wpAny_pyIter_list e1
  refine wpAny_stack_any λst=>wpAny_pure ?_;split
  ·rename_i c _ _ _ _ _;cases(c==Value.type "enumerate")<;>(wp_walk using wpAny_pyIter_list e1;exact⟨_,rfl,h⟩)
  ·wp_walk using wpAny_pyIter_list e1
   exact⟨_,rfl,h⟩
theorem Ez{s:Shared}{l:Addr}(c1:s.heap.IsList l aq)(h:∀h' e it,e≠it->IsEnum h' e it 0 .none->h'.IsListIter it l 0->(∀b o,s.heap.get? b=some o->h'.get? b=some o)->(∀b∈[e,it],s.heap.objs.size<=b)->Q (.ref e) {s with heap:=h'}):
  wpAny (model prog w) A (call (.type "enumerate") [.ref l]) Q E s:=by
 refine callType_new F.called_enumerate (by decide) (F.typeCall_enumerate_1 _) (F.newCall_enumerate_1 _) (λobj=>F.args_object_init_2 obj _) F.entry_enumerate_new (HD l aq) ⟨c1,?_⟩;have y1:(AN s.heap l).objs.size=s.heap.objs.size+1:=by unfold AN;rw[size_push]
 have f2:((AN s.heap l).push {cls:=.type "enumerate",data:=.fields #[.none,.bool false,.ref s.heap.objs.size,rawInt 0,.none,.none]}).get? (AN s.heap l).objs.size=some _:=get?_push_size _ rfl;have f1:((AN s.heap l).push {cls:=.type "enumerate",data:=.fields #[.none,.bool false,.ref s.heap.objs.size,rawInt 0,.none,.none]}).get? s.heap.objs.size=some _:=get?_push_of_some _ (get?_push_size _ rfl);refine(?_:_/\_);refine⟨⟨_,f2,rfl⟩,h _ _ s.heap.objs.size (by rw[y1];exact Nat.succ_ne_self _) f2 ⟨_,f1,rfl,rfl⟩ (λb o e=>get?_push_of_some _ (get?_push_of_some _ e)) λb hb=>?_⟩;simp only[mem_cons,not_mem_nil,or_false]at hb;rcases hb with e|e
 ·rw[e,y1];exact le_succ _
 ·rw[e];exact le_refl _
def Vh (K:Fg) (a:Addr):It:=
 ⟨λi H=>∃xs x,fk K H a xs/\xs[i]?=some x,
  λi H v H'=>∃T x,v=.ref T/\H T=none/\H'=upd H T (.tup [.int i,x])/\∀xs,fk K H a xs->xs[i]?=some x,
  λi H=>∃xs,fk K H a xs/\xs.length<=i⟩
theorem FA{pt:Pos}{a e:Addr}(ne:e≠it):
  Turn P w K (.Tuple i3 kt pt) (Vh K a) [e,it] e (λi h=>(∃old,IsEnum h e it (i:Int) old)/\h.IsListIter it a i) where
 mem:=mem_cons_self
 obj:=λi h st b hb=>by
  obtain⟨⟨old,Z⟩,o,ho,_,hd⟩:=st;simp only[mem_cons,not_mem_nil,or_false]at hb;rcases hb with q|q
  ·rw[q];exact⟨_,Z,λv z=>nomatch z⟩
  ·rw[q];exact⟨o,ho,λv z=>by rw[hd]at z;cases z⟩
 keep:=λi h h' st k=>by
  obtain⟨⟨old,Z⟩,o,ho,r⟩:=st;exact⟨⟨old,k e (by simp) _ Z⟩,o,k it (by simp) _ ho,r⟩
 item:=by
  intro X hP hw hK hc i pins s σ H E I hf st hg;subst hP hw hK;obtain⟨⟨old,Z⟩,w1⟩:=st;obtain⟨xs,x,c1,hx⟩:=hg;obtain⟨aq,r1,p1,_⟩:=I.list c1;obtain⟨ux,Qa,rx⟩:=r1.get hx;have lt:∀b∈[e,it],b<s.heap.objs.size:=λb hb=>by
   simp only[mem_cons,not_mem_nil,or_false]at hb;rcases hb with q|q
   ·rw[q];exact lt_size Z
   ·rw[q];obtain⟨o,ho,_⟩:=w1;exact lt_size ho
  refine wpAny_pyNext_enum_item Z w1 p1.isList (x:=ux) (by simpa using Qa) ne λg b1 b2 b3 b4 b5=>⟨_,rfl,?_⟩;refine wpAny_letOwnedTupleGo_enum (s:={s with heap:=g,toks:=s.toks+1}) b1 λg' b6 b7=>?_;have In:Inv X pins σ (upd H s.heap.objs.size (.tup [.int i,x])) {s with heap:=s.heap.push {cls:=.type "tuple",data:=.seq #[.int i s.toks,ux]},toks:=s.toks+1}:=
   I.laid (t':=s.toks+1) (λb u e=>get?_push_of_some _ e) (le_refl _) ⟨by show 2<=sizeLine;decide,[.int i s.toks,ux],.cons ⟨_,rfl⟩ (.cons rx .nil),⟨_,get?_push_size _ rfl,rfl,_,rfl⟩⟩
  have v3:∀b∈[e,it],(upd H s.heap.objs.size (.tup [.int i,x])) b=none:=λb hb=>by
   rw[bB (ne_of_lt (lt b hb))];exact(hf b hb).1
  have I3:Inv X pins σ (upd H s.heap.objs.size (.tup [.int i,x])) {s with heap:=g',toks:=s.toks+1}:=rN (s:={s with heap:=s.heap.push {cls:=.type "tuple",data:=.seq #[.int i s.toks,ux]},toks:=s.toks+1}) (h':=g') (t':=s.toks+1) (ch:=[e,it]) In (λb o hb q=>by
   simp only[mem_cons,not_mem_nil,or_false,not_or]at hb;refine b7.extBut _ _ hb.1 ?_;rcases Heap.get?_push_cases (show(s.heap.push {cls:=.type "tuple",data:=.seq #[.int i s.toks,ux]}).get? b=some o from q)with⟨e1,e2⟩|e1
   ·rw[e1,e2];exact b3
   ·exact b5 b o hb.1 hb.2 e1) λb hb=>⟨v3 b hb,(hf b hb).2⟩
  refine⟨.ref s.heap.objs.size,upd H s.heap.objs.size (.tup [.int i,x]),I3,rfl,⟨_,x,rfl,I.bR.fresh (le_refl _),rfl,λys d1=>?_⟩,⟨⟨_,b6⟩,?_⟩,v3⟩
  ·rw[I.tQ d1 c1];exact hx
  ·obtain⟨o,ho,r⟩:=b2;exact⟨o,b7.extBut _ _ ne.symm ho,r⟩
 done:=by
  intro X hP hw hK hc i pins s σ H E I hf st hg;subst hP hw hK;obtain⟨⟨old,Z⟩,w1⟩:=st;obtain⟨xs,c1,hl⟩:=hg;obtain⟨aq,r1,p1,_⟩:=I.list c1;have l1:=r1.length;refine wpAny_pyNext_enum_end (I.ok.hd hc) Z w1 p1.isList (by simp;omega) λg k=>⟨rfl,?_⟩;exact rN (h':=g) (t':=s.toks) (ch:=[e,it]) I (λb o hb q=>by
   simp only[mem_cons,not_mem_nil,or_false,not_or]at hb;exact k b o hb.2 q) hf
 self:=λA i s Q E st h=>wpAny_pyIter_enum st.1.choose_spec h
def SJ (K:Fg) (ta:TA):TI:=λσ H R=>ta σ H λvs H1=>∃a1,vs=[.ref a1]/\(∃xs,fk K H1 a1 xs)/\R (Vh K a1) H1
theorem MQ{pt:Pos}{ta:TA}(hg:Gl X "enumerate")(hm:X.mg "enumerate"=none)(ha:PA X [a] ta)(hs:starEach [a] X.env=[(false,eval a X.env)]:=by rfl):
  PI X (.Tuple i3 kt pt) (.Call (.Name "enumerate" p) [a] [] pos) (SJ X.K ta):=by
 intro pins s σ H R I h;refine Call_ (oB I hg hm boot_enumerate (PyProof.Rows.callWith_type1 (cz (ha pos pins s σ H _ I h) λus s1 ⟨vs,H1,I1,r1,q1⟩=>?_) (by rw[hs];rfl) (by rfl)));obtain⟨a1,e,⟨xs,c1⟩,q⟩:=q1;subst e;cases r1 with
 |cons r rr=>
  cases rr;cases r;obtain⟨Ec,_,p1,_⟩:=I1.list c1;exact Ez p1.isList λh' e it ne Z w1 kk new=>wpAny_pyIter_enum Z ⟨e,[e,it],_,_,H1,rfl,I1.kept (t':=s1.toks) kk,FA ne,⟨⟨_,Z⟩,w1⟩,λb hb=>I1.Aw (new b hb) (I1.bR.fresh (new b hb)),q⟩
def iA:Nat->List Dat->List Dat
 |_,[]=>[]
 |i,x::xs=>.tuple [.int i,x]::iA (i+1) xs
variable {fs:ax->Option (List Dat)} in
def oF (fs:ax->Option (List Dat)):ax->Option (List Dat):=λρ=>(fs ρ).bind λds=>match ds with
 |[.list xs]=>some (iA 0 xs)
 |_=>none
theorem xP:∀(xs:List Dat) (i:Nat),(iA i xs).length=xs.length
 |[],_=>rfl
 |x::xs,i=>congrArg (· + 1) (xP xs (i+1))
theorem xQ:∀{xs:List Dat} {k i:Nat} {d:Dat},(iA k xs)[i]?=some d->∃x,xs[i]?=some x/\d=.tuple [.int ((k+i:Nat):Int),x]
 |[],k,i,d,h=>by simp[iA]at h
 |x::xs,k,0,d,h=>by simp[iA]at h;exact⟨x,rfl,h.symm⟩
 |x::xs,k,i+1,d,h=>by
  obtain⟨y,h1,h2⟩:=xQ (xs:=xs) (k:=k+1) (i:=i) (by simpa [iA]using h);exact⟨y,by simpa using h1,by rw[h2,show k+1+i=k+(i+1) by omega]⟩
variable {fs:ax->Option (List Dat)} in
theorem Jb{pt:Pos}(hm:X.mg "enumerate"=none)(ha:M1 X [a] fs)(hg:Gl X "enumerate":=by rfl)(hs:starEach [a] X.env=[(false,eval a X.env)]:=by rfl):
  V2 X (.Tuple i3 kt pt) (.Call (.Name "enumerate" p) [a] [] pos) (oF fs):=mx (MQ hg hm ha hs) λσ H R aM=>by
 obtain⟨Av,ρ,ds,hA,hE,hf,q⟩:=aM;obtain⟨as,e1,hf⟩:=bind_some hf;refine⟨Av,ρ,as,hA,hE,e1,λvs H1 s1 r=>?_⟩;match as,hf,r with
 |[.list x],hf,r=>
  cases hf;obtain⟨v,rfl,rv⟩:=r.dD;obtain⟨a1,xs,rfl,c1,_⟩:=rv.fq;refine⟨a1,rfl,⟨xs,c1.sq⟩,q _ [.ref a1] [.list x] H1 s1 r λi H Av' rr=>?_⟩;obtain⟨v',e,FL⟩:=rr.dD;cases e;obtain⟨_,xs,e,c1,rx⟩:=FL.fq;cases e;refine⟨λhl=>⟨xs,c1.sq,?_⟩,λdi hd=>?_⟩
  ·rw[xP]at hl;rw[rx.length];exact hl
  ·obtain⟨dx,h1,rfl⟩:=xQ hd;obtain⟨vx,hx,OF⟩:=rx.get h1;refine⟨⟨xs,vx,c1.sq,hx⟩,λz H' Qw hz=>?_⟩;obtain⟨T,x',rfl,hT,rfl,hh⟩:=hz;have h3:=hh xs c1.sq;rw[hx]at h3;cases h3;rw[zero_add];exact⟨bK hT _,.tL Qw hT (.cons (.int _) (.cons OF .nil))⟩
variable {fs:ax->Option (List Dat)} in
theorem nk{pt:Pos}(hm:X.mg "enumerate"=none)(ha:kC X [a] fs)(hg:Gl X "enumerate":=by rfl)(hs:starEach [a] X.env=[(false,eval a X.env)]:=by rfl):
  rF X (.Tuple i3 kt pt) (.Call (.Name "enumerate" p) [a] [] pos) (oF fs):=⟨Jb hm ha.o hg hs⟩
open PySem PySem.Spec PyProof.Rows L2
open PySem.W (Dat kqdOk)
variable {hI:ar->Option (List Dat×ar)}
def Tn (K:Fg) (hI:ar->Option (List Dat×ar)):TI:=λσ H R=>∃af Av pn aC Γ ad aq aj,GA K af Av pn aC H σ Γ ad/\hI Γ=some (aq,aj)/\∀J xs j5 H1 eM,GA K af Av pn aC H1 σ aj eM->aB K H1 (bz Av aj eM) xs j5->vD K J xs j5 aq->R J H1
abbrev LY (X:Cx) (tg iter:Expr) (hI:ar->Option (List Dat×ar)):Prop:=QI X tg iter (Tn X.K hI)
def JN (rg:List Dat->Option (List Dat)) (hs:ar->Option (List Dat×ar)):ar->Option (List Dat×ar):=λΓ=>(hs Γ).bind λp=>(rg p.1).map λaq=>(aq,p.2)
theorem sT(hm:X.mg "range"=none)(ha:td X [a] hs)(Hj:Gl X "range":=by rfl)(hst:starEach [a] X.env=[(false,eval a X.env)]:=by rfl):LY X tg (.Call (.Name "range" p) [a] [] pos') (JN iF hs):=⟨mx (qG Hj hm ha.o hst) λσ H R aM=>by
 obtain⟨af,Av,pn,aC,Γ,ad,aq,aj,G,hf,q⟩:=aM;obtain⟨⟨as,Γ1⟩,e1,hf⟩:=bind_some hf;obtain⟨its',e2,hf⟩:=aT hf;obtain⟨h1,h2⟩:=Prod.mk.inj hf;subst h1 h2;refine⟨af,Av,pn,aC,Γ,ad,as,Γ1,G,e1,λvs H1 eM G1 r=>?_⟩;dsimp only at e2;unfold iF at e2;split at e2
 ·rename_i j;split at e2
  ·rename_i hj;cases e2;obtain⟨v,rfl,rv⟩:=r.dD;rw[rv.d7];exact⟨_,rfl,hj.1,hj.2,q _ [.bW] [.none] H1 eM G1 (.cons .bW .nil) ph.s⟩
  ·cases e2
 ·cases e2⟩
open PySem PySem.Spec PyProof.Rows L2
open PySem.W (Dat kqdOk kqdP kqdPs kqd_lay)
abbrev RK:=Str×List Int
def ee (k:RK):Dat:=.tuple [.str k.1,.tuple (k.2.map .int)]
def rR (w:World) (k:RK):Int:=reduceHash (Builtin.Tuple.tupleHashOf [hashStr w k.1,reduceHash (Builtin.Tuple.tupleHashOf (k.2.map hashInt))])
def eh (P:Program) (w:World) (h:Heap) (k:RK) (a:Addr):Prop:=∃o n t b,h.get? a=some o/\o.cls=.type "tuple"/\o.data=.seq #[.str k.1 t,.ref b] n/\IsTupleKey (intKind P w) h k.2 b/\PyData.strOk k.1=true
variable {k:RK} {a:Addr}
variable {s:Shared} in
theorem eh.ty(x:eh P w s.heap k a):s.TypeIs (.ref a) "tuple":=by
 obtain⟨o,n,t,b,h1,h2,_⟩:=x;exact⟨o,h1,h2⟩
variable {h:Heap} {x y:RK}
theorem eh.same(p:eh P w h x a)(q:eh P w h y a):x=y:=by
 obtain⟨o,n,t,b,h1,h2,h3,h4,_⟩:=p;obtain⟨o',n',t',b',g1,g2,g3,g4,_⟩:=q;have e:o=o':=Option.some.inj (h1.symm.trans g1);subst e;rw[h3]at g3;injection g3 with g3 _;injection g3 with g3;injection g3 with e1 e2;injection e2 with e2 _;injection e1 with e1 _;injection e2 with e2;subst e2;exact Prod.ext e1 (h4.inj g4)
variable {d:Addr}
theorem eh.nP{o:Obj}{es ep}(x:eh P w h k a)(ho:h.get? d=some o)(hd:o.data=.dict es ep)(hs:SameBut d h h'):eh P w h' k a:=by
 obtain⟨o',n,t,b,h1,h2,h3,h4,h5⟩:=x;refine⟨o',n,t,b,(hs.2 a ?_).trans h1,h2,h3,h4.keeps ho hd hs,h5⟩;intro z;subst z;rw[h1]at ho;cases ho;rw[hd]at h3;cases h3
variable {s:Shared} in
theorem eh.hash{Q:Int->Shared->Prop}(hu:A.units+8<cLine)(hk:eh P w s.heap k a)(h:Q (rR w k) {s with toks:=s.toks+(k.2.length+3)}):wpAny (model P w) A (pyHash (.ref a)) Q E s:=by
 have ty:=hk.ty;obtain⟨o,n,t,b,ho,_,hd,hb,_⟩:=hk;unfold pyHash pyHashByItsType;refine wpAny_bind (wpAny_cRoomFor_or (.inr (by omega)) (wpAny_bind (wpAny_specialOf ty F.slot_tuple_hash.lookup ?_)));have nb:¬((some (Value.builtin "tuple.__hash__")==some Value.none)=true):=by rw[beq_builtin_none];exact Bool.false_ne_true
 refine(?_:wpAny _ _ (if(some (Value.builtin "tuple.__hash__")==some Value.none)=true then _ else _) Q E s);rw[if_neg nb];refine wpAny_bind (wpAny_specialOf ty F.slot_tuple_hash.lookup (?_:wpAny _ _ (callSpecialIfBoundUnlessNone? (.ref a) "__hash__" _ >>= _) Q E s));refine wpAny_bind (wpAny_callSpecialIfBoundUnlessNone?_slot ty F.slot_tuple_hash (wpAny_call_entry F.slot_tuple_hash ty F.entry_tuple_hash ?_ (F.args_tuple_hash_1 _)));refine(?_:wpAny _ _ (Builtin.Tuple.tupleItemsOf (.ref a) >>= _) _ _ s);refine wpAny_bind (wpAny_tupleItemsOf ho hd (wpAny_bind ?_));rw[<- forIn_toList];refine wpAny_forIn_list _ (λrest (arr:Array Int) s'=>(rest=[.str k.1 t,.ref b]/\arr.toList=[]/\s'=s)\/(rest=[.ref b]/\arr.toList=[hashStr w k.1]/\s'={s with toks:=s.toks+1})\/
  (rest=[]/\arr.toList=[hashStr w k.1,tupleKeyHash (intKind P w) k.2]/\s'={s with toks:=s.toks+1+(k.2.length+1)})) _ ?_ ?_ _ _ (.inl ⟨rfl,rfl,rfl⟩)
 ·rintro x rest arr s' (⟨h1,h2,rfl⟩|⟨h1,h2,rfl⟩|⟨h1,_⟩)
  ·cases h1;refine wpAny_bind (wpAny_pyHash_str ?_);first
    |exact wpAny_pure (.inr (.inl ⟨rfl,by simp[h2],rfl⟩))
    |exact wpAny_bind (wpAny_pure (wpAny_pure (.inr (.inl ⟨rfl,by simp[h2],rfl⟩))))
  ·cases h1;refine wpAny_bind (wpAny_pyHash_tuple (by first|omega|(show A.units+1<cLine;omega)|(show A.units+2<cLine;omega)) hb ?_)
   first
    |exact wpAny_pure (.inr (.inr ⟨rfl,by simp[h2],rfl⟩))
    |exact wpAny_bind (wpAny_pure (wpAny_pure (.inr (.inr ⟨rfl,by simp[h2],rfl⟩))))
  ·cases h1
 ·rintro arr s' (⟨h1,_⟩|⟨h1,_⟩|⟨_,h2,rfl⟩)
  ·cases h1
  ·cases h1
  ·refine(?_:wpAny _ _ (retInt (Builtin.Tuple.tupleHashOf arr.toList)) _ _ _);rw[h2];refine wpAny_ret_mkInt ?_;have e1:tupleKeyHash (intKind P w) k.2=reduceHash (Builtin.Tuple.tupleHashOf (k.2.map hashInt)):=rfl;rw[e1];unfold rR at h;generalize hz:Builtin.Tuple.tupleHashOf [hashStr w k.1,reduceHash (Builtin.Tuple.tupleHashOf (k.2.map hashInt))]=z at h;refine(?_:wpAny _ _ (if(decide (-(2:Int)^63<=z)&&decide (z<2^63))=true then _ else _) Q E _);have et:s.toks+1+(k.2.length+1)+1=s.toks+(k.2.length+3):=by omega
   unfold reduceHash at h;by_cases hr:(decide (-(2:Int)^63<=z)&&decide (z<2^63))=true
   ·rw[if_pos hr]at h ⊢;exact wpAny_pure (by rw[<- et]at h;exact h)
   ·rw[if_neg hr]at h ⊢;exact wpAny_bind (wpAny_rule (wpAny_pure (by rw[<- et]at h;exact h)))
theorem uU{h:Heap}:∀{ns:List Int} {vs:List Value},ItemsAre (intKind P w) ns vs->ReadsAll h vs (kqdPs (ns.map Dat.int)) []
 |[],_,.nil=>by rw[map_nil,kqdPs];exact .nil
 |n::ns,_,.cons h1 hr=>by
  obtain⟨t,rfl⟩:=Value.isInt_shape (k:=n) h1;rw[map_cons,kqdPs,kqdP];have:=ReadsAll.cons (Reads.int n t) (uU (h:=h) hr);exact this
theorem eh.reads(x:eh P w h k a):Reads h (.ref a) (kqdP (ee k)) []:=by
 obtain⟨o,n,t,b,h1,h2,h3,⟨o',aq,n',g1,g2,g3,g4⟩,_⟩:=x;unfold ee;rw[kqdP,kqdPs,kqdPs,kqdPs,kqdP,kqdP];refine .tuple h1 h2 h3 ?_;have:=ReadsAll.cons (Reads.str (h:=h) k.1 t) (ReadsAll.cons (Reads.tuple g1 g2 g3 (uU (h:=h) g4)) .nil);exact this
theorem eh.FG(x:eh P w h k a):PyData.strOk k.1=true:=let ⟨_,_,_,_,_,_,_,_,q⟩:=x;q
theorem mn(hk:PyData.strOk k.1=true):kqdOk 9 (ee k)=true:=by
 have e:(k.2.map Dat.int).all (kqdOk 7)=true:=by rw[all_map,all_eq_true];exact λ_ _=>rfl
 unfold ee;simp only[kqdOk,all_cons,List.all_nil,e,hk,Bool.and_true,Bool.true_and]
theorem p6(h:ee x=ee y):x=y:=by
 unfold ee at h;simp only[PySem.W.Dat.tuple.injEq,List.cons.injEq,PySem.W.Dat.str.injEq,and_true]at h;exact Prod.ext h.1 ((List.map_inj_right λa b e=>by simpa using e).mp h.2)
variable {Q:Bool->Shared->Prop}
variable {s:Shared} in
theorem eh.eqv{b:Addr}(hu:A.units+8<cLine)(hx:eh P w s.heap x a)(hy:eh P w s.heap y b)(h:Q (decide (x=y)) s):wpAny (model P w) A (eqBool (.ref a) (.ref b)) Q E s:=by
 have l1:=kqd_lay 9 _ (mn hx.FG);have l2:=kqd_lay 9 _ (mn hy.FG);have d3:(kqdP (ee x)).depth<=3:=by
  have e:kqdOk 3 (ee x)=true:=by
   have e:(x.2.map Dat.int).all (kqdOk 1)=true:=by rw[all_map,all_eq_true];exact λ_ _=>rfl
   unfold ee;simp only[kqdOk,all_cons,List.all_nil,e,hx.FG,Bool.and_true,Bool.true_and]
  exact(kqd_lay 3 _ e).2
 refine PySem.SeqAt.eqBoolOverData P w A E s _ _ _ _ _ _ Q hx.reads hy.reads l1.1 l2.1 (by omega) ?_;rw[sD _ _ (mn hx.FG) (mn hy.FG)];by_cases e:x=y
 ·subst e;rw[mV rfl];rw[decide_eq_true rfl]at h;exact h
 ·rw[oM λz=>e (p6 z)];rw[decide_eq_false e]at h;exact h
variable {m:Nat}
variable {s:Shared} in
theorem DN{ks:List Int}(hk:IsTupleKey (intKind P w) s.heap ks a)(h:Q true s):wpAny (model P w) A (eqIsQuiet (m+1) (.ref a)) Q E s:=by
 have hT:=hk.typeIs;obtain⟨o,aq,n,ho,_,hd,hi⟩:=hk;unfold eqIsQuiet;refine wpAny_bind (wpAny_specialOf hT F.slot_tuple_eq.lookup (?_:wpAny _ _ (isInstance (.ref a) (.type "tuple") >>= _) _ _ s));refine wpAny_bind (wpAny_isInstance hT isSubtype_tuple_tuple ?_);simp only[Bool.not_true,false_eq_true,if_false];refine wpAny_bind (wpAny_seqItems ho hd (wpAny_bind (?_:wpAny _ _ (forIn aq _ _) _ _ s)));rw[<- forIn_toList];refine wpAny_forIn_list _ (λtl acc s2=>(∀x∈tl,carriedByValue x=true)/\s2=s/\acc.1=none) _ ?_ ?_ _ _ ⟨hi.byValue,rfl,rfl⟩
 ·rintro x tl acc s2 ⟨hv,rfl,ha⟩;rw[eqIsQuiet_byValue _ (hv x mem_cons_self)];refine wpAny_bind (wpAny_pure ?_);simp only[Bool.not_true,false_eq_true,if_false];exact wpAny_pure ⟨λu q=>hv u (mem_cons_of_mem _ q),rfl,rfl⟩
 ·rintro⟨c1,c2⟩ s2 ⟨_,rfl,ha⟩;simp only at ha;subst ha;exact wpAny_pure h
variable {s:Shared} in
theorem eh.quiet(hk:eh P w s.heap k a)(h:Q true s):wpAny (model P w) A (eqIsQuiet 8 (.ref a)) Q E s:=by
 have hT:=hk.ty;obtain⟨o,n,t,b,ho,_,hd,hb,_⟩:=hk;unfold eqIsQuiet;refine wpAny_bind (wpAny_specialOf hT F.slot_tuple_eq.lookup (?_:wpAny _ _ (isInstance (.ref a) (.type "tuple") >>= _) _ _ s));refine wpAny_bind (wpAny_isInstance hT isSubtype_tuple_tuple ?_);simp only[Bool.not_true,false_eq_true,if_false];refine wpAny_bind (wpAny_seqItems ho hd (wpAny_bind (?_:wpAny _ _ (forIn #[Value.str k.1 t,.ref b] _ _) _ _ s)));rw[<- forIn_toList];refine wpAny_forIn_list _ (λrest r s'=>r.1=none/\s'=s/\(∀v∈rest,carriedByValue v=true\/v=.ref b)) _ ?_ ?_ _ _ ⟨rfl,rfl,λv hv=>by
  simp only[mem_cons,not_mem_nil,or_false]at hv;rcases hv with e|e
  ·rw[e];exact .inl rfl
  ·exact .inr e⟩
 ·rintro v rest acc s2 ⟨ha,rfl,nY⟩;rcases nY v mem_cons_self with e|e
  ·rw[eqIsQuiet_byValue _ e];refine wpAny_bind (wpAny_pure ?_);simp only[Bool.not_true,false_eq_true,if_false];exact wpAny_pure ⟨rfl,rfl,λu q=>nY u (mem_cons_of_mem _ q)⟩
  ·rw[e];refine wpAny_bind (DN hb ?_);simp only[Bool.not_true,false_eq_true,if_false];exact wpAny_pure ⟨rfl,rfl,λu q=>nY u (mem_cons_of_mem _ q)⟩
 ·rintro⟨c1,c2⟩ s2 ⟨ha,rfl,_⟩;simp only at ha;subst ha;exact wpAny_pure h
def vX (P:Program) (w:World):HeapKind P w RK where
 is:=eh P w
 hash:=rR w
 draws:=λk=>k.2.length+3
 room:=λA=>A.units+8<cLine
 inj:=λp q=>p.same q
 keeps:=λx ho hd hs=>x.nP ho hd hs
 pyHash:=λhu hk h=>hk.hash hu h
 eqBool:=λhu hx hy h=>hx.eqv hu hy h
 quiet:=λhk h=>hk.quiet h
open PySem PySem.Spec PyProof.Rows L2
open PySem.W (Dat kqdOk)
def tj (h:Heap) (d:Addr) (es:Array DictEntry) (ep:Nat):Prop:=∃o,h.get? d=some o/\o.ExactDict/\o.data=.dict es ep
variable {ep:Nat} {es:Array DictEntry}
variable {s:Shared} in
theorem tj.ty(m:tj s.heap d es ep):s.TypeIs (.ref d) "dict":=let ⟨o,e,c,_⟩:=m;⟨o,e,c.1⟩
variable {s:Shared} in
theorem NC{Q:Value->Shared->Prop}(nd:(d==sysModules)=false)(m:tj s.heap d es ep)(q:Q (.ref s.heap.objs.size) {s with heap:=s.heap.push {cls:=.type "dict_keyiterator",data:=.fields #[.ref d,.int 0 0,.int es.size 0,.int ep 0]}}):wpAny (model P w) A (pyIter (.ref d)) Q E s:=by
 have ty:=m.ty;obtain⟨o,e,c,da⟩:=m;refine wpAny_pyIter_slot ty F.slot_dict_iter (wpAny_call_entry F.slot_dict_iter ty F.entry_dict_iter ?_ (F.args_dict_iter_1 _));unfold Builtin.«dict.__iter__» Builtin.Dict.dictSlotNone;refine wpAny_bind (wpAny_bind (wpAny_notOrdered_dict ty (wpAny_pure ?_)));refine(?_:wpAny _ _ (Builtin.Dict.showsAll d >>= _) _ _ s);unfold Builtin.Dict.showsAll;rw[if_neg (λz=>Bool.false_ne_true (nd.symm.trans z))];refine wpAny_bind (wpAny_pure (wpAny_bind (wpAny_dictEntries e da (wpAny_bind (wpAny_dictEpoch e da (wpAny_bind (wpAny_newObj_type (wpAny_pure ⟨_,rfl,"dict_keyiterator",_,⟨_,get?_push_size _ rfl,rfl⟩,F.slot_dict_keyiterator_next.lookup,?_⟩))))))));simpa [rawInt]using q
variable {s:Shared} in
theorem NB{Q:Option Value->Shared->Prop}{x:DictEntry}(ki:s.heap.IsKeyIter it d i es.size ep)(m:tj s.heap d es ep)(hx:es[i]?=some x)(q:∀h',h'.IsKeyIter it d (i+1) es.size ep->SameBut it s.heap h'->Q (some x.key) {s with heap:=h'}):wpAny (model P w) A (pyNext (.ref it)) Q E s:=by
 have ty:=ki.typeIs;obtain⟨o,e,c,da⟩:=id ki;obtain⟨o2,e2,c2,HS⟩:=id m;have lt:i<es.size:=by
  by_cases z:i<es.size
  ·exact z
  ·rw[Array.getElem?_eq_none (by omega)]at hx;cases hx
 unfold pyNext;refine wpAny_bind (wpAny_attempt (wpAny_callSpecial?_slot (name:=Str.ofString "__next__") ty F.slot_dict_keyiterator_next (wpAny_call_entry F.slot_dict_keyiterator_next ty F.entry_dict_keyiterator_next (wpAny_bind (wpAny_pure (wpAny_bind (wpAny_bind ?_)))) (F.args_dict_keyiterator_next_1 _))));first|refine wpAny_bind (wpAny_typeNameOfWhole_keyiter ty (wpAny_pure (wpAny_bind (wpAny_fieldsOf e da ?_))))|refine wpAny_bind (wpAny_typeNameOf_keyiter ty (wpAny_pure (wpAny_bind (wpAny_fieldsOf e da ?_))))
 have ow:Builtin.Dict_items.ownsTuple "dict_keyiterator"=false:=by decide
 simp only[ow,false_eq_true,if_false];refine(?_:wpAny _ _ (if(Value.ref d==Value.none)=true then _ else _) _ _ s);have nn:¬((Value.ref d==Value.none)=true):=Bool.false_ne_true;rw[if_neg nn];refine wpAny_bind (wpAny_pure (wpAny_bind (wpAny_dictEntries e2 HS ?_)));rw[if_neg (by simp)];refine wpAny_bind (wpAny_pure (wpAny_bind (wpAny_dictEpoch e2 HS ?_)));rw[if_neg (by simp)];refine wpAny_pure ?_;simp only[show ¬((i:Int)<0) by omega,if_false,toNat_natCast,hx];refine wpAny_bind ?_;first|refine wpAny_bind (wpAny_typeNameOfWhole_keyiter ty (wpAny_pure (wpAny_bind (wpAny_isOneOf_keyiter ty ?_))))|refine wpAny_bind (wpAny_typeNameOf_keyiter ty (wpAny_pure (wpAny_bind (wpAny_isOneOf_keyiter ty ?_))))
 refine(?_:wpAny _ _ (setField (.ref it) 1 (rawInt ((i:Int)+1)) >>= _) _ _ s);refine wpAny_bind (wpAny_setField e da (by simp) ?_);have U2:(s.heap.update it (Obj.mapFields (·.setIfInBounds 1 (rawInt ((i:Int)+1))))).IsKeyIter it d (i+1) es.size ep:=⟨_,Heap.get?_update_self _ e (Obj.isFreed_of_fields (Obj.data_mapFields da _)),(Obj.cls_mapFields ..).trans c,by rw[Obj.data_mapFields da];simp[rawInt]⟩;refine wpAny_bind (wpAny_holding (wpAny_bind (wpAny_isOneOf_keyiter (s:={s with heap:=s.heap.update it (Obj.mapFields (·.setIfInBounds 1 (rawInt ((i:Int)+1))))}) U2.typeIs ?_)));refine(?_:wpAny _ _ (pure x.key) _ _ _);exact wpAny_pure (wpAny_pure ⟨_,rfl,wpAny_pure (q _ U2 (SameBut.update ..))⟩)
variable {s:Shared} in
theorem R0{Q:Option Value->Shared->Prop}(hh:A.handled=none)(ki:s.heap.IsKeyIter it d es.size es.size ep)(m:tj s.heap d es ep)(q:∀h',ExtBut it s.heap h'->Q none {s with heap:=h'}):wpAny (model P w) A (pyNext (.ref it)) Q E s:=by
 have ty:=ki.typeIs;obtain⟨o,e,c,da⟩:=id ki;obtain⟨o2,e2,c2,HS⟩:=id m;unfold pyNext;refine wpAny_bind (wpAny_attempt (wpAny_callSpecial?_slot (name:=Str.ofString "__next__") ty F.slot_dict_keyiterator_next (wpAny_call_entry F.slot_dict_keyiterator_next ty F.entry_dict_keyiterator_next (wpAny_bind (wpAny_pure (wpAny_bind (wpAny_bind ?_)))) (F.args_dict_keyiterator_next_1 _))));first|refine wpAny_bind (wpAny_typeNameOfWhole_keyiter ty (wpAny_pure (wpAny_bind (wpAny_fieldsOf e da ?_))))|refine wpAny_bind (wpAny_typeNameOf_keyiter ty (wpAny_pure (wpAny_bind (wpAny_fieldsOf e da ?_))))
 have ow:Builtin.Dict_items.ownsTuple "dict_keyiterator"=false:=by decide
 simp only[ow,false_eq_true,if_false];refine(?_:wpAny _ _ (if(Value.ref d==Value.none)=true then _ else _) _ _ s);have nn:¬((Value.ref d==Value.none)=true):=Bool.false_ne_true;rw[if_neg nn];refine wpAny_bind (wpAny_pure (wpAny_bind (wpAny_dictEntries e2 HS ?_)));rw[if_neg (by simp)];refine wpAny_bind (wpAny_pure (wpAny_bind (wpAny_dictEpoch e2 HS ?_)));rw[if_neg (by simp)];refine wpAny_pure ?_;simp only[show ¬((es.size:Int)<0) by omega,if_false,toNat_natCast,Array.getElem?_eq_none (le_refl es.size)];refine wpAny_bind ?_;first|refine wpAny_bind (wpAny_typeNameOfWhole_keyiter ty (wpAny_pure ?_))|refine wpAny_bind (wpAny_typeNameOf_keyiter ty (wpAny_pure ?_))
 refine(?_:wpAny _ _ (setField (.ref it) 0 .none >>= _) _ _ s);refine wpAny_bind (wpAny_setField e da (by simp) (?_:wpAny _ _ (newExc (.type "StopIteration") [] >>= _) _ _ _));refine wpAny_bind ?_;simp only[newExc,newTuple];refine wpAny_bind (wpAny_newObj_type (wpAny_bind (m:=firstArgMember _ _) (wpAny_of_eq (a:=Value.none) (by first|rfl|(simp only[firstArgMember];rfl)) (wpAny_newObj_type ?_ (by size_fits)))) (by size_fits))
 simp only[raiseNew];refine wpAny_bind (wpAny_handled ?_);have h0:A.in1.handled=none:=hh;rw[h0];refine wpAny_bind (wpAny_pure (wpAny_throw (wpAny_bind ?_)));refine wpAny_isInstance (T:="StopIteration") (b:=true) ⟨_,get?_push_size _ rfl,rfl⟩ isSubtype_stop (?_:wpAny _ _ _ _ _ _);exact wpAny_pure (q _ (((SameBut.update ..).extBut.push _).push _))
theorem tj.of(m:tj h d es ep)(k:∀o,h.get? d=some o->h'.get? d=some o):tj h' d es ep:=let ⟨o,e,r⟩:=m;⟨o,k o e,r⟩
theorem JV(hh:A.handled=none)(it d:Addr)(ne:d≠it)(es:Array DictEntry)(ep:Nat):Walks P w A it [it,d] [it] es.size (λi v=>∃x,es[i]?=some x/\v=x.key) (λi h=>h.IsKeyIter it d i es.size ep/\tj h d es ep) where
 sub:=λb hb=>by simp at hb;simp[hb]
 frame:=λ_ _ _ st k=>⟨st.1.at λo e=>k it (by simp) o e,st.2.of λo e=>k d (by simp) o e⟩
 item:=λi s Q E hi st q=>NB st.1 st.2 (Array.getElem?_eq_getElem hi) λh' k1 sb=>q _ h' s.toks ⟨_,Array.getElem?_eq_getElem hi,rfl⟩ ⟨k1,st.2.of λo e=>sb.extBut d o ne e⟩ λb o hb e=>sb.extBut b o (λz=>hb (by simp[z])) e
 done:=λs Q E st q=>R0 hh st.1 st.2 λh' eb=>q h' s.toks λb o hb e=>eb b o (λz=>hb (by simp[z])) e
 self:=λ_ _ _ _ st q=>wpAny_pyIter_keyiter st.1 q
theorem QZ(nd:(d==sysModules)=false):PySem.W.KdlSrc P w "dict" d d es.size (λi v=>∃x,es[i]?=some x/\v=x.key) (λh=>tj h d es ep) where
 type:=λ_ m=>m.ty
 there:=λ_ ⟨_,e,_⟩=>⟨lt_size e,lt_size e⟩
 keep:=λ_ _ m k=>m.of λo e=>k d (.inl rfl) o e
 notList:=by decide
 notTuple:=by decide
 hint:=λ_ _ _ _ m q=>PySem.W.kdl_hint_dict m.ty q
 iter:=λ_ s hh m=>⟨_,_,(λ_ _ q=>NC nd m q),JV hh _ d (let ⟨_,e,_⟩:=m;ne_of_lt (lt_size e)) es ep,⟨⟨_,get?_push_size _ rfl,rfl,rfl⟩,m.of λo e=>get?_push_of_some _ e⟩⟩
open PySem PySem.Spec PyProof.Rows L2
open PySem.W (Dat kqdOk)
def K7 (w:World) (p:RK×Addr):DictEntry:=⟨rR w p.1,.ref p.2,.bool true⟩
def jm (w:World) (ks:List RK) (a:Addr) (xs:List V) (h:Heap):Prop:=
 (a==sysModules)=false/\ks.length<=sizeLine/\ks.Nodup/\∃as:List Addr,as.length=ks.length/\xs=as.map V.ref/\∃o es ep,h.get? a=some o/\o.ExactDict/\o.data=.dict es ep/\es.toList=(ks.zip as).map (K7 w)
variable {ks:List RK}
theorem jm.ok(m:jm w ks a xs h):gj P w H h a (.ext (jm w ks a xs)):=by
 refine⟨m,?_,λh1 h2 m1 k=>?_⟩
 ·obtain⟨_,_,_,_,_,_,o,_,_,e,_⟩:=m;exact⟨o,e⟩
 ·obtain⟨c1,c2,c3,as,c4,c5,o,es,ep,e,r⟩:=m1;exact⟨c1,c2,c3,as,c4,c5,o,es,ep,k o e,r⟩
def Sd (w:World):TE:=λ_ H Q=>∀p,H p=none->Q (.ref p) (upd H p (.ext (jm w [] p [])))
theorem MV:PE X (.Dict [] [] pos) (Sd X.w):=λpins s σ H Q I h=>by
 refine wpAny_Dict_empty ⟨.ref s.heap.objs.size,_,I.laid (a:=s.heap.objs.size) (o:=.ext (jm X.w [] s.heap.objs.size [])) (t':=s.toks) (λ_ _ q=>get?_push_of_some _ q) (le_refl _) (jm.ok ⟨?_,zero_le _,nodup_nil,[],rfl,rfl,_,#[],0,get?_push_size _ rfl,⟨rfl,rfl,rfl⟩,rfl,rfl⟩),rfl,h _ (I.bR.fresh (le_refl _))⟩;have b:=I.big;exact beq_eq_false_iff_ne.mpr (Nat.ne_of_gt b)
theorem xD:∀{ns:List Int} {ys:List V} {us:List Value},aB K H Av ys (ns.map Dat.int)->Vals ys us->ItemsAre (intKind P w) ns us
 |[],_,_,.nil,.nil=>.nil
 |n::ns,_,_,.cons r1 r2,.cons v1 v2=>by
  rw[r1.d7]at v1;obtain⟨t,rfl⟩:=v1;exact .cons (by simp[intKind,Value.isInt]) (xD r2 v2)
theorem FQ{σ:L2.St}{s:Shared}(I:Inv X pins σ H s)(hk:PyData.strOk k.1=true)(r:aS X.K H Av v (ee k)):∃b,v=.ref b/\eh X.prog X.w s.heap k b:=by
 obtain⟨b,xs,rfl,hq,rs⟩:=r.ff;refine⟨b,rfl,?_⟩;obtain⟨aq,vs,⟨o,ho,hc,n,hd⟩,_⟩:=I.tuple hq.sq;cases rs with
 |cons r1 rs=>
  cases rs with
  |cons r2 rs=>
   cases rs;rw[r1.iq]at vs;obtain⟨c,ys,e2,CC,uI⟩:=r2.ff;subst e2;obtain⟨ja,WH,⟨o2,qS,Ag,n2,hd2⟩,_⟩:=I.tuple CC.sq;cases vs with
   |cons v1 vs=>
    cases vs with
    |cons v2 vs=>
     cases vs;obtain⟨t,rfl⟩:=v1;cases v2;exact⟨o,n,t,c,ho,hc,hd,⟨o2,ja.toArray,n2,qS,Ag,hd2,by rw[List.toList_toArray];exact xD uI WH⟩,hk⟩
theorem zg{pins:List (Addr×Obj)}{σ:L2.St}{s:Shared}(I:Inv X pins σ H s):∀{ks:List RK} {as:List Addr},(∀k∈ks,PyData.strOk k.1=true)->aB X.K H Av (as.map V.ref) (ks.map ee)->∀p∈ks.zip as,eh X.prog X.w s.heap p.1 p.2
 |[],_,_,_,p,hp=>by simp at hp
 |k::ks,[],_,_,p,hp=>by simp at hp
 |k::ks,a::as,hs,.cons r1 r2,p,hp=>by
  rw[zip_cons_cons]at hp;rcases mem_cons.mp hp with e|hp
  ·obtain⟨b,e1,q⟩:=FQ I (hs k mem_cons_self) r1;injection e1 with e1;rw[e,e1];exact q
  ·exact zg I (λk hk=>hs k (mem_cons_of_mem _ hk)) r2 p hp
def gV (ks:List RK) (k:RK):List RK:=if k∈ks then ks else ks++[k]
def yt (ks:List RK) (xs:List V) (k:RK) (v:V):List V:=if k∈ks then xs else xs++[v]
def Sn (K:Fg) (w:World):ES:=λo i v H Q=>∃p ks xs k Av,o=.ref p/\v=.bl true/\H p=some (.ext (jm w ks p xs))/\(∀k∈ks,PyData.strOk k.1=true)/\PyData.strOk k.1=true/\aB K H Av xs (ks.map ee)/\aS K H Av i (ee k)/\ks.length<sizeLine/\Q (upd H p (.ext (jm w (gV ks k) p (yt ks xs k i))))
def qb (ks:List RK) (as:List Addr):List (RK×Addr×Value):=(ks.zip as).map λp=>(p.1,p.2,Value.bool true)
variable {as:List Addr}
theorem sG(h:as.length=ks.length):(qb ks as).map (·.1)=ks:=by
 unfold qb;rw[map_map];show(ks.zip as).map Prod.fst=ks;rw[List.map_fst_zip (by omega)]
theorem NW(h:as.length=ks.length):(qb ks as).length=ks.length:=by
 unfold qb;rw[length_map,length_zip,h,min_self]
theorem Rr(h:as.length=ks.length):(atKey (qb ks as) k).isSome=decide (k∈ks):=by
 unfold atKey;rw[Option.isSome_map];by_cases c:k∈ks
 ·rw[decide_eq_true c];rw[<- sG h]at c;obtain⟨x,hx,e⟩:=mem_map.mp c;exact List.find?_isSome.mpr ⟨x,hx,decide_eq_true e⟩
 ·rw[decide_eq_false c];refine Bool.eq_false_iff.mpr λz=>?_;obtain⟨x,hx,e⟩:=List.find?_isSome.mp z;refine c ?_;rw[<- sG h];exact mem_map.mpr ⟨x,hx,of_decide_eq_true e⟩
theorem FD{b:Addr}(h:as.length=ks.length):storedH (qb ks as) k b (.bool true)=qb (gV ks k) (if k∈ks then as else as++[b]):=by
 have e:=Rr (k:=k) h;unfold storedH gV;by_cases c:k∈ks
 ·rw[decide_eq_true c]at e;rw[if_pos e,if_pos c,if_pos c];unfold qb;rw[map_map];refine List.map_congr_left λp _=>?_;show putAt k (.bool true) (p.1,p.2,.bool true)=_;unfold putAt;split<;>rfl
 ·rw[decide_eq_false c]at e;rw[if_neg (by rw[e];decide),if_neg c,if_neg c];unfold qb;rw[List.zip_append h.symm,map_append];rfl
theorem HE:(qb ks as).map (entryOfKey (vX P w))=(ks.zip as).map (K7 w):=by
 unfold qb;rw[map_map];rfl
theorem BO:∀{as:List Addr} {us:List Value},us.length=as.length->(∀(j:Nat) (a:Addr) (u:Value),as[j]?=some a->us[j]?=some u->u=.ref a)->Vals (as.map V.ref) us
 |[],[],_,_=>.nil
 |[],_::_,h,_=>by simp at h
 |_::_,[],h,_=>by simp at h
 |a::as,u::us,h,q=>.cons (q 0 a u rfl rfl) (BO (by simpa using h) λj b v h1 h2=>q (j+1) b v (by simpa using h1) (by simpa using h2))
theorem Mu(hu:X.A.units+20<cLine):Kj X (Sn X.K X.w):=by
 intro pins s σ H o i v ov iv u Q I ro ri rv h;obtain⟨p,ks,xs,k,Av,rfl,rfl,hp,hs,hk,rs,rk,hz,q⟩:=h;cases ro;cases rv;obtain⟨b,rfl,hb⟩:=FQ I hk rk;cases ri;obtain⟨m,_,_⟩:=(show gj X.prog X.w H s.heap p (.ext (jm X.w ks p xs))from I.bR p _ hp);obtain⟨c1,c2,c3,as,c4,rfl,o,es,ep,e,xd,da,he⟩:=m;have hm:s.heap.DictOfH (vX X.prog X.w) p (qb ks as):=⟨o,es,ep,e,xd,da,by rw[HE];exact he,λx hx=>by
  obtain⟨y,hy,rfl⟩:=mem_map.mp hx;exact zg I hs rs y hy,by rw[sG c4];exact c3⟩
 refine wpAny_setItem_heap (knd:=vX X.prog X.w) (show X.A.in1.units+8<cLine by first|omega|(show X.A.units+1+8<cLine;omega)) hb hm (λh' CD sb=>?_) (by rw[NW c4];omega)
 rw[FD c4]at CD;obtain⟨o',CP,HC,e',WG,YQ,Lo,_,TR⟩:=CD;have l2:(if k∈ks then as else as++[b]).length=(gV ks k).length:=by
  unfold gV;split
  ·exact c4
  ·rw[length_append,length_append,c4];rfl
 have n2:(gV ks k).Nodup:=by rw[sG l2]at TR;exact TR
 have z2:(gV ks k).length<=sizeLine:=by
  unfold gV;split
  ·exact c2
  ·rw[length_append];show ks.length+1<=sizeLine;omega
 have x2:yt ks (as.map V.ref) k (.ref b)=(if k∈ks then as else as++[b]).map V.ref:=by
  unfold yt;split
  ·rfl
  ·rw[map_append];rfl
 refine⟨_,I.write (x:=p) (e:=p) (by rw[hp];trivial) (.inl rfl) (λc u ne ec=>(sb.2 c ne).trans ec) ⟨o',e'⟩ (jm.ok ⟨c1,z2,n2,_,l2,x2,o',CP,HC,e',WG,YQ,by rw[HE]at Lo;exact Lo⟩),q⟩
theorem Ig(hh:X.A.handled=none):km X (.type "list") (λvs H Q=>∃p ks xs,vs=[.ref p]/\H p=some (.ext (jm X.w ks p xs))/\∀l,H l=none->Q (.ref l) (upd H l (.lst xs))):=by
 intro pins s σ H vs us Q I hv h;obtain⟨p,ks,xs,rfl,hp,q⟩:=h;cases hv with
 |cons v1 v2=>
  cases v2;cases v1;obtain⟨m,_,_⟩:=(show gj X.prog X.w H s.heap p (.ext (jm X.w ks p xs))from I.bR p _ hp);obtain⟨c1,c2,c3,as,c4,rfl,o,es,ep,e,xd,da,he⟩:=m;have ez:es.size=ks.length:=by rw[<- length_toList,he,length_map,length_zip,c4,min_self]
  refine PySem.W.kdl_call (QZ (es:=es) (ep:=ep) c1) hh ⟨o,e,xd,da⟩ (by rw[ez];exact c2) λh' tk acc c' k hl hi=>?_;have hv:Vals (as.map V.ref) acc.toList:=by
   have hlen:acc.toList.length=as.length:=by rw[length_toList,hi.1,ez,c4]
   refine BO hlen λj a u ha hu=>?_;obtain⟨x,hx,rfl⟩:=hi.2 j u (by rw[<- Array.getElem?_toList];exact hu);have hj:j<ks.length:=by rw[<- c4];exact(List.getElem?_eq_some_iff.mp ha).1
   have zZ:((ks.zip as).map (K7 X.w))[j]?=some x:=by rw[<- he,Array.getElem?_toList];exact hx
   rw[getElem?_map]at zZ;cases hz:(ks.zip as)[j]? with
   |none=>rw[hz]at zZ;cases zZ
   |some y=>
    rw[hz]at zZ;cases zZ;have:=(List.getElem?_zip_eq_some.mp hz).2;rw[ha]at this;cases this;rfl
  refine⟨.ref s.heap.objs.size,_,I.laid (t':=tk) (a:=s.heap.objs.size) (o:=.lst (as.map V.ref)) k (le_refl _) ?_,rfl,q _ I.fresh⟩;exact⟨by rw[length_map,c4];exact c2,acc.toList,_,hv,by rw[Array.toArray_toList];exact hl⟩
open PySem PySem.Spec PyProof.Rows L2
open PySem.W (Dat kqdOk)
theorem GA.OC(G:GA K af Av pn aC H σ Γ ad){O:Addr->List V->Heap->Prop}{p:Addr}(i:Nat)(gM:i≠0)(hp:H p=none)(r:aB K H (bz Av Γ ad) xs ds):
  GA K af Av pn aC (upd H p (.ext (O p xs))) (σ.set i (some (.ref p))) (Γ.set i (some (.obj O ds))) (λj=>if j=i then p else ad j):=by
 have sm:aQ H (upd H p (.ext (O p xs))):=bK hp _;have Gy:∀j s,Γ[j]?=some (some s)->Slot.mt s=true->ad j≠p:=λj s h m=>by
  obtain⟨⟨o,b⟩,_⟩:=G.mt h m;exact bp b hp
 have kp:lK H (bz Av Γ ad) (upd H p (.ext (O p xs))) (bz Av (Γ.set i (some (.obj O ds))) (λj=>if j=i then p else ad j)):=by
  intro b o h n;refine⟨sm b o h,?_⟩;rintro(z|⟨j,es,e,m,r⟩)
  ·exact n (.inl z)
  ·rcases aN e with⟨e1,_⟩|⟨e1,q⟩
   ·have r':p=b:=by simpa [e1]using r
    exact bp h hp r'.symm
   ·have r':ad j=b:=by simpa [e1]using r
    exact n (.inr ⟨j,es,q,m,r'⟩)
 have z0:af p=none:=by
  cases e0:af p with
  |none=>rfl
  |some o=>have:=G.same p o e0;rw[hp]at this;cases this
 refine⟨G.same.trans sm,G.fH,by rw[length_set,length_set];exact G.len,λj d' h=>?_,λj es h=>?_,λj l es fs h1 h2 m1 m2 e=>?_,λq hq=>(G.aC q hq).mono kp,λa es e h=>?_,λj O' es h=>?_⟩
 ·rcases aN h with⟨e,q⟩|⟨e,q⟩
  ·cases q
  ·obtain⟨u,a,b⟩:=G.a8 j d' q;exact⟨u,by rw[getElem?_set_ne (Ne.symm e)];exact a,b.mono kp⟩
 ·rcases aN h with⟨e,q⟩|⟨e,q⟩
  ·cases q
  ·obtain⟨ys,a,b,c,e'⟩:=G.own j es q;refine⟨ys,?_,?_,c.mono kp,?_⟩
   ·rw[if_neg e,getElem?_set_ne (Ne.symm e)];exact a
   ·rw[if_neg e];exact sm _ _ b
   ·rw[if_neg e];exact e'
 ·rcases aN h1 with⟨e1,q1⟩|⟨e1,q1⟩
  ·rcases aN h2 with⟨e2,q2⟩|⟨e2,q2⟩
   ·rw[e1,e2]
   ·rw[if_pos e1,if_neg e2]at e;exact absurd e.symm (Gy l fs q2 m2)
  ·rcases aN h2 with⟨e2,q2⟩|⟨e2,q2⟩
   ·rw[if_neg e1,if_pos e2]at e;exact absurd e (Gy j es q1 m1)
   ·rw[if_neg e1,if_neg e2]at e;exact G.inj j l es fs q1 q2 m1 m2 e
 ·rcases aN h with⟨z,_⟩|⟨_,q⟩
  ·exact absurd z.symm gM
  ·show(if 0=i then p else ad 0)=a;rw[if_neg (Ne.symm gM)];exact G.pin a es e q
 ·have dw:=f6 h;rw[length_set]at dw;rcases aN h with⟨e,q⟩|⟨e,q⟩
  ·subst e;cases q;refine⟨xs,?_,?_,r.mono kp,?_⟩
   ·rw[if_pos rfl];exact getElem?_set_self (by rw[G.len];exact dw)
   ·rw[if_pos rfl];exact dC
   ·rw[if_pos rfl];exact z0
  ·obtain⟨ys,a,b,c,e'⟩:=G.obj j O' es q;refine⟨ys,?_,?_,c.mono kp,?_⟩
   ·rw[if_neg e,getElem?_set_ne (Ne.symm e)];exact a
   ·rw[if_neg e];exact sm _ _ b
   ·rw[if_neg e];exact e'
theorem GA.HY(G:GA K af Av pn aC H σ Γ ad){O O':Addr->List V->Heap->Prop}{es:List Dat}{ys:List V}(hi:Γ[i]?=some (some (.obj O ds)))(r:aB K H (bz Av Γ ad) ys es):
  GA K af Av pn aC (upd H (ad i) (.ext (O' (ad i) ys))) σ (Γ.set i (some (.obj O' es))) ad:=by
 have av:∀a,bz Av (Γ.set i (some (.obj O' es))) ad a->bz Av Γ ad a:=by
  rintro a (z|⟨j,fs,e,m,q⟩)
  ·exact .inl z
  ·rcases aN e with⟨e1,_⟩|⟨e1,q1⟩
   ·subst e1;exact .inr ⟨j,_,hi,rfl,q⟩
   ·exact .inr ⟨j,fs,q1,m,q⟩
 have kp:lK H (bz Av Γ ad) (upd H (ad i) (.ext (O' (ad i) ys))) (bz Av (Γ.set i (some (.obj O' es))) ad):=by
  intro b o h n;refine⟨?_,λz=>n (av b z)⟩;rw[bB λz=>n (.inr ⟨i,_,hi,rfl,z.symm⟩)];exact h
 obtain⟨Oa,g1,g2,g3,g4⟩:=G.obj i O ds hi;refine⟨λb o h=>?_,G.fH,by rw[length_set];exact G.len,λj d' h=>?_,λj fs h=>?_,λj l fs gs h1 h2 m1 m2 e=>?_,λp hp=>(G.aC p hp).mono kp,λa fs e h=>?_,λj O2 fs h=>?_⟩
 ·rw[bB (bp h g4)];exact G.same b o h
 ·rcases aN h with⟨e,q⟩|⟨e,q⟩
  ·cases q
  ·obtain⟨u,a,b⟩:=G.a8 j d' q;exact⟨u,a,b.mono kp⟩
 ·rcases aN h with⟨e,q⟩|⟨e,q⟩
  ·cases q
  ·obtain⟨zs,a,b,c,e'⟩:=G.own j fs q;refine⟨zs,a,?_,c.mono kp,e'⟩;rw[bB λz=>e (G.inj j i _ _ q hi rfl rfl z)];exact b
 ·rcases aN h1 with⟨e1,q1⟩|⟨e1,q1⟩
  ·rcases aN h2 with⟨e2,q2⟩|⟨e2,q2⟩
   ·rw[e1,e2]
   ·subst e1;exact G.inj j l _ gs hi q2 rfl m2 e
  ·rcases aN h2 with⟨e2,q2⟩|⟨e2,q2⟩
   ·subst e2;exact G.inj j l fs _ q1 hi m1 rfl e
   ·exact G.inj j l fs gs q1 q2 m1 m2 e
 ·rcases aN h with⟨_,q⟩|⟨_,q⟩
  ·cases q
  ·exact G.pin a fs e q
 ·rcases aN h with⟨e,q⟩|⟨e,q⟩
  ·subst e;cases q;exact⟨ys,g1,dC,r.mono kp,g4⟩
  ·obtain⟨zs,a,b,c,e'⟩:=G.obj j O2 fs q;refine⟨zs,a,?_,c.mono kp,e'⟩;rw[bB λz=>e (G.inj j i _ _ q hi rfl rfl z)];exact b
def KL (w:World) (i:Nat):ar->Option Fl:=λΓ=>some (.nx (Γ.set i (some (.obj (jm w []) []))))
variable {x:Str}
theorem DT(i:Nat)(hN:X.N.Nodup)(hi:X.N[i]?=some x:=by rfl)(gM:i≠0:=by decide)(hx:Loc X.env.scope x:=by first|exact .inl rfl|exact .inr rfl)(hs:swapsWith (.Dict [] [] p2) (some (.Name x pos')) pos.line X.env=pure false:=by rfl)(hf:X.fn x=true\/X.env.scope.names.lookup x=some .local:=by first|exact .inl rfl|exact .inr rfl):
  dY X (.Assign [.Name x pos'] (.Dict [] [] p2) pos) (KL X.w i):=⟨bM (qA hN hi hx MV hs hf) λD σ H aM=>by
 obtain⟨af,Av,pn,aC,Γ,fl,⟨ad,G⟩,hf,q⟩:=aM;cases hf;exact λp hp=>q _ _ ⟨_,G.OC i gM hp .nil⟩⟩
def RW (w:World) (O:Addr->List V->Heap->Prop) (ds:List Dat) (d:Dat) (p:List RK×RK):Prop:=O=jm w p.1/\ds=p.1.map ee/\d=ee p.2/\(∀k∈p.1,PyData.strOk k.1=true)/\PyData.strOk p.2.1=true/\p.1.length<sizeLine
noncomputable def uH (w:World) (i:Nat) (f:ax->Option Dat):ar->Option Fl:=open Classical in λΓ=>(f (bG Γ)).bind λd=>match Γ[i]? with
 |some (some (.obj O ds))=>if h:∃p,RW w O ds d p then some (.nx (Γ.set i (some (.obj (jm w (gV h.choose.1 h.choose.2)) ((gV h.choose.1 h.choose.2).map ee)))))else none
 |_=>none
theorem FR{xs ys:List RK}(h:xs.map ee=ys.map ee):xs=ys:=(List.map_inj_right λa b e=>p6 e).mp h
theorem IS(hi:Γ[i]?=some (some (.obj (jm w ks) (ks.map ee))))(hf:f (bG Γ)=some (ee k))(h1:∀k∈ks,PyData.strOk k.1=true)(h2:PyData.strOk k.1=true)(h3:ks.length<sizeLine):
  uH w i f Γ=some (.nx (Γ.set i (some (.obj (jm w (gV ks k)) ((gV ks k).map ee))))):=by
 unfold uH;rw[hf,Option.bind_some,hi];have ex:∃p,RW w (jm w ks) (ks.map ee) (ee k) p:=⟨(ks,k),rfl,rfl,rfl,h1,h2,h3⟩;refine(dif_pos ex).trans ?_;obtain⟨_,g2,g3,_⟩:=ex.choose_spec;rw[<- FR g2,<- p6 g3]
variable {k:Nat}
theorem DS(i:Nat)(hr:cg k X.A)(pe:QF X e (fC (.bool true)))(pb:QF X b f)(hN:X.N[i]?=some x:=by rfl)(hv:kB X.env.scope x:=by first|exact Or.inl rfl|exact Or.inr (Or.inl rfl)|exact Or.inr (Or.inr rfl))(hd:(x==("__debug__" : Str))=false:=by decide)(fG:(x==("__classdict__" : Str))=false:=by decide)(ha:∀v,assign (.Subscript (.Name x p1) b p3) X.env v=(do
   let ov <- holding [v] (eval (.Name x p1) X.env);let iv <- holding [v,ov] (eval b X.env);standAt p3
   holding [v,ov,iv] (setItem ov iv v)
   release [v,ov,iv] []):=by intro _;rfl)(hs:swapsWithSole [.Subscript (.Name x p1) b p3] e pos.line X.env=pure false:=by rfl)(hw:swappedStores [.Subscript (.Name x p1) b p3] e X.env=pure none:=by rfl)(h1:(assignEach [.Subscript (.Name x p1) b p3] X.env).map (·.2)=[assign (.Subscript (.Name x p1) b p3) X.env]:=by rfl):
  dY X (.Assign [.Subscript (.Name x p1) b p3] e pos) (uH X.w i f):=⟨bM (qE pe.o (zz (jT hN hv hd fG) pb.o (Mu (by have:=hr.un;omega)) ha) hs hw h1) λD σ H aM=>by
 obtain⟨af,Av,pn,aC,Γ,fl,⟨ad,G⟩,hf,q⟩:=aM;obtain⟨d,e2,nB⟩:=bind_some hf;cases hi:Γ[i]? with
 |none=>rw[hi]at nB;cases nB
 |some o=>
  cases o with
  |none=>rw[hi]at nB;cases nB
  |some sl=>
   cases sl with
   |a8 _=>rw[hi]at nB;cases nB
   |own _=>rw[hi]at nB;cases nB
   |obj O ds=>
    rw[hi]at nB;dsimp only at nB;by_cases hx:∃p,RW X.w O ds d p
    ··rw[dif_pos hx]at nB;cases nB;obtain⟨c1,c2,c3,c4,c5,c6⟩:=hx.choose_spec;generalize hx.choose=pk at c1 c2 c3 c4 c5 c6 q;obtain⟨ks,kk⟩:=pk;dsimp only at c1 c2 c3 c4 c5 c6 q;subst c1 c2 c3;refine⟨bz Av Γ ad,bG Γ,.bool true,G.gu,G.jc,rfl,λv H' s r=>?_⟩;have G1:=G.grow s;obtain⟨xs,g1,g2,g3,g4⟩:=G1.obj i _ _ hi;refine⟨_,g1,bz Av Γ ad,bG Γ,ee kk,G1.gu,G1.jc,e2,λy H2 s2 ry=>?_⟩;have G2:=G1.grow s2;obtain⟨ys,g5,g6,g7,g8⟩:=G2.obj i _ _ hi;have rv:v=.bl true:=by cases r;rfl
      refine⟨ad i,ks,ys,kk,bz Av Γ ad,rfl,rv,g6,c4,c5,g7,ry,c6,q _ _ ⟨ad,G2.HY hi ?_⟩⟩;unfold gV yt;split
      ·exact g7
      ·rw[map_append];exact g7.append (.cons ry .nil)
    ·rw[dif_neg hx]at nB;cases nB⟩
noncomputable def uD (w:World) (i:Nat):ar->Option Fl:=open Classical in λΓ=>match Γ[i]? with
 |some (some (.obj O ds))=>if ∃ks,O=jm w ks then some (.rt (.list ds))else none
 |_=>none
theorem IQ(hi:Γ[i]?=some (some (.obj (jm w ks) ds))):uD w i Γ=some (.rt (.list ds)):=by
 unfold uD;rw[hi];exact if_pos ⟨ks,rfl⟩
theorem DQ(i:Nat)(hr:cg k X.A)(hm:X.mg "list"=none)(hN:X.N[i]?=some x:=by rfl)(hv:kB X.env.scope x:=by first|exact Or.inl rfl|exact Or.inr (Or.inl rfl)|exact Or.inr (Or.inr rfl))(hd:(x==("__debug__" : Str))=false:=by decide)(fG:(x==("__classdict__" : Str))=false:=by decide)(hg:Gl X "list":=by rfl)(he:starEach [.Name x p1] X.env=[(false,eval (.Name x p1) X.env)]:=by rfl):
  dY X (.Return (some (.Call (.Name "list" p) [.Name x p1] [] p2)) pos) (uD X.w i):=⟨bM (qB (qJ (Ig hr.hd) hg hm (by decide +kernel) (iZ (jT hN hv hd fG) mL he) (by decide) (by decide) he rfl)) λD σ H aM=>by
 obtain⟨af,Av,pn,aC,Γ,fl,⟨ad,G⟩,hf,q⟩:=aM;unfold uD at hf;split at hf
 ·rename_i O ds hi;split at hf
  ·rename_i hx;obtain⟨ks,rfl⟩:=hx;cases hf;obtain⟨xs,g1,g2,g3,g4⟩:=G.obj i _ _ hi;exact⟨_,g1,ad i,ks,xs,rfl,g2,λl hl=>q _ _ (G.same.trans (bK hl _)) (.nV (G.fH.same G.same) hl (g3.weak λ_ z=>.inl z))⟩
  ·cases hf
 ·cases hf⟩
theorem G4(w:World)(i:Nat)(hN:X.N.Nodup)(hw:X.w=w:=by rfl)(hi:X.N[i]?=some x:=by rfl)(gM:i≠0:=by decide)(hx:Loc X.env.scope x:=by first|exact .inl rfl|exact .inr rfl)(hs:swapsWith (.Dict [] [] p2) (some (.Name x pos')) pos.line X.env=pure false:=by rfl)(hf:X.fn x=true\/X.env.scope.names.lookup x=some .local:=by first|exact .inl rfl|exact .inr rfl):
  dY X (.Assign [.Name x pos'] (.Dict [] [] p2) pos) (KL w i):=hw▸DT i hN hi gM hx hs hf
theorem xm(w:World)(i:Nat)(hr:cg k X.A)(pe:QF X e (fC (.bool true)))(pb:QF X b f)(Q8:X.w=w:=by rfl)(hN:X.N[i]?=some x:=by rfl)(hv:kB X.env.scope x:=by first|exact Or.inl rfl|exact Or.inr (Or.inl rfl)|exact Or.inr (Or.inr rfl))(hd:(x==("__debug__" : Str))=false:=by decide)(fG:(x==("__classdict__" : Str))=false:=by decide)(ha:∀v,assign (.Subscript (.Name x p1) b p3) X.env v=(do
   let ov <- holding [v] (eval (.Name x p1) X.env);let iv <- holding [v,ov] (eval b X.env);standAt p3
   holding [v,ov,iv] (setItem ov iv v)
   release [v,ov,iv] []):=by intro _;rfl)(hs:swapsWithSole [.Subscript (.Name x p1) b p3] e pos.line X.env=pure false:=by rfl)(hw:swappedStores [.Subscript (.Name x p1) b p3] e X.env=pure none:=by rfl)(h1:(assignEach [.Subscript (.Name x p1) b p3] X.env).map (·.2)=[assign (.Subscript (.Name x p1) b p3) X.env]:=by rfl):
  dY X (.Assign [.Subscript (.Name x p1) b p3] e pos) (uH w i f):=Q8▸DS i hr pe pb hN hv hd fG ha hs hw h1
theorem FX(w:World)(i:Nat)(hr:cg k X.A)(hm:X.mg "list"=none)(Q8:X.w=w:=by rfl)(hN:X.N[i]?=some x:=by rfl)(hv:kB X.env.scope x:=by first|exact Or.inl rfl|exact Or.inr (Or.inl rfl)|exact Or.inr (Or.inr rfl))(hd:(x==("__debug__" : Str))=false:=by decide)(fG:(x==("__classdict__" : Str))=false:=by decide)(hg:Gl X "list":=by rfl)(he:starEach [.Name x p1] X.env=[(false,eval (.Name x p1) X.env)]:=by rfl):
  dY X (.Return (some (.Call (.Name "list" p) [.Name x p1] [] p2)) pos) (uD w i):=Q8▸DQ i hr hm hN hv hd fG hg he
open PySem PySem.Spec PyProof.Rows L2
open PySem.W (Dat kqdOk)
structure FnAt (K:Fg) (mg:Str->Option Value) (x:Str) (st:Stmt) (ps:List Str):Prop where
 ex:∃f fd,nI K x x st f fd/\mg x=some (.ref f)/\Binds K fd ps []
theorem Wr{f:Addr}{oc:Value}{od an:Option Addr}{sU:Array (Option Value)}{kV doc pm bC ct:Value}(X:K.In h)(G:h.Ns mainGlobals mg)(a:nsIn K mainGlobals x=some (some (.ref f)))(l:K.lookup f=some ⟨oc,od,.func (fnOf x x (jN st) (df st) (aW st) .none kV doc pm an bC ct),sU⟩)(c:codeIn K bC x=true)(k:keepIn K (.ref f)=true)(b:∀(kV doc pm:Value) (an:Option Addr) (bC ct:Value) (us:List Value),us.length=ps.length->bindArgs (fnOf x x (jN st) (df st) (aW st) .none kV doc pm an bC ct) ⟨us,[]⟩=pure (ps.zip us)):FnAt K mg x st ps:=
 ⟨⟨_,_,As l c k,mg_of X G a,(As l c k).binds b⟩⟩
theorem dI(N:List Str)(U:FnAt K mg x st ps){g:ar->Option Fl}(hbody:N.Nodup->∀(fa:Addr) (bC:Value) (A:Around) (outer:List Env) (s:Shared) (H:Hp) (E:XK),cg k (A.deeper (envOfC x (aW st) s.heap.objs.size fa bC))->hZ (gY gO P w K mg base N x (aW st) fa bC A outer s H E).ly (df st) g)(S:fV N ps (aW st):=by exact⟨rfl,rfl,rfl,by decide +kernel,rfl,by decide +kernel,by decide +kernel⟩)(hn:ps.length=n:=by rfl):Dn P w K mg base (k+1) x ps n (jq N g):=by
 obtain⟨f,fd,U,hm,hB⟩:=U.ex;exact iK U hm hB S hn (hbody S.nd f) λ_ _ _ h=>h
theorem l6(N:List Str)(U:FnAt K mg x st ps){g:ar->Option Fl}(hbody:N.Nodup->∀(fa:Addr) (bC:Value) (A:Around) (outer:List Env) (s:Shared) (H:Hp) (E:XK),cg k (A.deeper (envOfC x (aW st) s.heap.objs.size fa bC))->hZ (gY gO P w K mg base N x (aW st) fa bC A outer s H E).ly (df st) g)(S:fV N ps (aW st):=by exact⟨rfl,rfl,rfl,by decide +kernel,rfl,by decide +kernel,by decide +kernel⟩)(hn:ps.length=n:=by rfl):eI P w K mg base (k+1) x ps n (runM N g):=by
 obtain⟨f,fd,U,hm,hB⟩:=U.ex;exact MJ U hm hB S hn (hbody S.nd f) λ_ _ _ _ _ h=>h
structure TC (K:Fg) (mg:Str->Option Value) (x:Str) (ds:List Dat) (a:Addr):Prop where
 mg:mg x=some (.ref a)
 tup:ModT K a ds
variable {sl:Array (Option Value)}
theorem ym{o:Option Addr}{i j:Int}{t u:Tok}(X:K.In h)(G:h.Ns mainGlobals mg)(e:nsIn K mainGlobals x=some (some (.ref a)))(l:K.lookup a=some ⟨.type "tuple",o,.seq #[.int i t,.int j u] n,sl⟩):∃a,TC K mg x [.int i,.int j] a:=
 ⟨a,mg_of X G e,⟨[.int i,.int j],_,_,_,l,rfl,rfl,Nat.le_of_lt (jA (by show 2<=1000;decide)),.cons ⟨_,rfl⟩ (.cons ⟨_,rfl⟩ .nil),λH Av=>aB.ints [i,j]⟩⟩
open PySem PySem.Spec PyProof.Rows L2
open PySem.W (Dat kqdOk)
def kG (es:Array DictEntry):Bool:=es.toList.all λe=>match e.key with| .str _ _=>true|_=>false
structure wM (P:Program) (K:Fg) (mg:Str->Option Value):Prop where
 tree:P.given.tree=none
 st:∃(c:Value) (d:Option Addr) (es:Array DictEntry) (n:Nat) (sl:Array (Option Value)),K.lookup cStatics=some ⟨c,d,.dict es n,sl⟩/\kG es=true/\nsIn K cStatics "sys.audit-hooks"=some none/\nsIn K cStatics "sys.dict"=some none
 md:∃(c:Value) (d:Option Addr) (es:Array DictEntry) (n:Nat) (sl:Array (Option Value)),K.lookup sysModules=some ⟨c,d,.dict es n,sl⟩/\kG es=true/\nsIn K sysModules "_pylong"=some none
 bi:∃bm,mg "__builtins__"=some (.ref bm)/\∃(o:Obj),K.lookup bm=some o/\o.cls=.type "module"/\o.dict=some builtinsNs
theorem Mv{c1 c2:Value}{d1 d2:Option Addr}{e1 e2:Array DictEntry}{l1 l2 l3:Array (Option Value)}{bm:Addr}{d3:Data}(X:K.In h)(G:h.Ns mainGlobals mg)(ht:P.given.tree=none)(s1:K.lookup cStatics=some ⟨c1,d1,.dict e1 n1,l1⟩)(s3:nsIn K cStatics "sys.audit-hooks"=some none)(s4:nsIn K cStatics "sys.dict"=some none)(s5:K.lookup sysModules=some ⟨c2,d2,.dict e2 n2,l2⟩)(s7:nsIn K sysModules "_pylong"=some none)(s8:nsIn K mainGlobals "__builtins__"=some (some (.ref bm)))(s9:K.lookup bm=some ⟨.type "module",some builtinsNs,d3,l3⟩)(s2:kG e1=true)(s6:kG e2=true):wM P K mg:=
 ⟨ht,⟨_,_,_,_,_,s1,s2,s3,s4⟩,⟨_,_,_,_,_,s5,s6,s7⟩,⟨_,mg_of X G s8,_,s9,rfl,rfl⟩⟩
theorem DB(h:kG es=true):StrKeys es:=by
 intro e he;have:=all_eq_true.mp h e (Array.mem_def.mp he);revert this;cases hk:e.key with
 |str a b=>intro _;exact⟨a,b,rfl⟩
 |_=>intro z;cases z
theorem qL{c:Value}{d:Option Addr}(X:K.In h)(l:K.lookup a=some ⟨c,d,.dict es n,sl⟩)(k:kG es=true):h.Ns a (nsFind es):=
 ⟨_,es,n,X _ _ l,rfl,DB k,λ_=>rfl⟩
theorem wM.no(S:wM P K mg)(M:Mod K mg h):h.NoSeer:=by
 obtain⟨c,d,es,n,sl,l1,k1,a1,a2⟩:=S.st;obtain⟨c',d',CP,n',Ts,l2,k2,b1⟩:=S.md;obtain⟨bm,m1,o,l3,o1,o2⟩:=S.bi;have g1:=qL M.uR l1 k1;have g2:=qL M.uR l2 k2;exact⟨⟨_,g1,ns_none_of M.uR g1 a1,ns_none_of M.uR g1 a2⟩,⟨_,g2,ns_none_of M.uR g2 b1⟩,M.blt,⟨mg,bm,o,M.glob,m1,M.uR _ _ l3,o1,o2⟩⟩
def Dr (X:Cx):Prop:=∃e l,X.stack=e::l/\e.scope.isGenerator=false/\e.scope.isCoroutine=false/\e.builtins=builtinsNs/\e.globals=mainGlobals
theorem Jl(S:wM X.prog X.K X.mg)(hr:cg k X.A)(hk:32<=k)(hp:Dr X):dO X (binaryOp .FloorDiv) (rI Ma λi j=>.int (i.fdiv j)):=by
 intro pins s σ H x y v u Q I rx ry h;obtain⟨i,j,rfl,rfl,hc,q⟩:=h;obtain⟨t,rfl⟩:=rx;obtain⟨t',rfl⟩:=ry;obtain⟨e,l,h1,h2,h3,h4,h5⟩:=hp;have hd:X.A.depth+Builtin.pylongFrames<recursionLimit:=by
  have:=hr.dp;show X.A.depth+100<_;omega
 exact floordiv_int hc ⟨.int (i.fdiv j),H,I.tok _,⟨_,rfl⟩,q⟩ (.inr (PylongRoom.of I.nolimit hd (SeerAt.of ((S.no I.mod).keeps I.bk) S.tree (by rw[I.ok.frames,h1]) h2 h3 h4 h5)))
noncomputable abbrev lh:Dat->Dat->Option Dat:=iD Ma λi j=>.int (i.fdiv j)
variable {a:Expr}
theorem g9(S:wM X.prog X.K X.mg)(hr:cg k X.A)(ha:QF X a fa)(hb:QF X b fb)(hk:32<=k:=by decide)(hp:Dr X:=by exact⟨_,_,rfl,rfl,rfl,rfl,rfl⟩):QF X (.BinOp a .FloorDiv b pos) (f2 lh fa fb):=⟨mK (Jl S hr hk hp) pA ha.o hb.o⟩
end
end L3
namespace Fr
noncomputable section
theorem Aq(a b:Int)(hb:0<b):gcd b (a.fmod b)=gcd a b:=by
 rw[Int.fmod_eq_emod_of_nonneg a (Int.le_of_lt hb)];apply Nat.dvd_antisymm
 ·apply Int.dvd_gcd
  ·have h1:=gcd_dvd_left b (a % b);have h2:=gcd_dvd_right b (a % b);have e:a=a % b+b*(a/b):=(Int.emod_add_mul_ediv a b).symm;have h3:(↑(b.gcd (a % b)):Int)∣a % b+b*(a/b):=Int.dvd_add h2 (Int.dvd_mul_of_dvd_left h1);rw[<- e]at h3;exact h3
  ·exact gcd_dvd_left b (a % b)
 ·apply Int.dvd_gcd
  ·exact gcd_dvd_right a b
  ·have h1:=gcd_dvd_left a b;have h2:=gcd_dvd_right a b;have e:a % b=a-b*(a/b):=by have:=Int.emod_add_mul_ediv a b;omega
   rw[e];exact Int.dvd_sub h1 (Int.dvd_mul_of_dvd_left h2)
def dv (n d:Int):Int:=if d<0 then -(gcd n d:Int)else(gcd n d:Int)
def num (n d:Int):Int:=n.fdiv (dv n d)
def den (n d:Int):Int:=d.fdiv (dv n d)
variable {n d:Int}
theorem oI(h:d≠0):0<gcd n d:=Nat.pos_of_ne_zero λe=>h (by
 have:=gcd_dvd_right n d;rw[e]at this;exact Int.zero_dvd.mp this)
theorem yB(h:d≠0):dv n d≠0:=by
 have:=oI (n:=n) h;unfold dv;split<;>omega
theorem yD(n d:Int):dv n d∣n:=by
 unfold dv;split
 ·exact Int.neg_dvd.mpr (gcd_dvd_left n d)
 ·exact gcd_dvd_left n d
theorem yC(n d:Int):dv n d∣d:=by
 unfold dv;split
 ·exact Int.neg_dvd.mpr (gcd_dvd_right n d)
 ·exact gcd_dvd_right n d
theorem num_mul(n d:Int):num n d*dv n d=n:=by
 unfold num;rw[Int.fdiv_eq_ediv_of_dvd (yD n d)];exact Int.ediv_mul_cancel (yD n d)
theorem den_mul(n d:Int):den n d*dv n d=d:=by
 unfold den;rw[Int.fdiv_eq_ediv_of_dvd (yC n d)];exact Int.ediv_mul_cancel (yC n d)
theorem den_pos(h:d≠0):0<den n d:=by
 have e:=den_mul n d;have g:=oI (n:=n) h;by_cases hd:d<0
 ·have e2:dv n d=-(gcd n d:Int):=by unfold dv;exact if_pos hd
  have JI:dv n d<0:=by omega
  rcases Int.lt_trichotomy (den n d) 0 with q|q|q
  ·have:=Int.mul_pos_of_neg_of_neg q JI;omega
  ·rw[q]at e;simp at e;omega
  ·exact q
 ·have e2:dv n d=(gcd n d:Int):=by unfold dv;exact if_neg hd
  have A5:0<dv n d:=by omega
  rcases Int.lt_trichotomy (den n d) 0 with q|q|q
  ·have:=Int.mul_neg_of_neg_of_pos q A5;omega
  ·rw[q]at e;simp at e;omega
  ·exact q
theorem vj(n d:Int):(dv n d).natAbs=gcd n d:=by
 unfold dv;split<;>simp
theorem LO(h:d≠0):gcd (num n d) (den n d)=1:=by
 unfold num den;rw[Int.fdiv_eq_ediv_of_dvd (yD n d),Int.fdiv_eq_ediv_of_dvd (yC n d),Int.gcd_ediv (yD n d) (yC n d),vj];exact Nat.div_self (oI h)
theorem Ew(n d:Int):num n d*d=den n d*n:=by
 have e1:=num_mul n d;have e2:=den_mul n d;calc num n d*d=num n d*(den n d*dv n d):=by rw[e2]
  _=den n d*(num n d*dv n d):=by rw[Int.mul_left_comm]
  _=den n d*n:=by rw[e1]
theorem uniq{p q:Int}(hd:d≠0)(hq:0<q)(hc:gcd p q=1)(h:p*d=q*n):num n d=p/\den n d=q:=by
 have hx:=Ew n d;have hk:=LO (n:=n) hd;have Ad:=den_pos (n:=n) hd

 have key:p*den n d=q*num n d:=by
  have a1:(p*den n d)*d=(q*num n d)*d:=by
   calc (p*den n d)*d=(p*d)*den n d:=by rw[Int.mul_right_comm]
    _=(q*n)*den n d:=by rw[h]
    _=q*(den n d*n):=by rw[Int.mul_assoc,mul_comm n]
    _=q*(num n d*d):=by rw[hx]
    _=(q*num n d)*d:=by rw[Int.mul_assoc]
  exact Int.eq_of_mul_eq_mul_right hd a1
 have n1:q.natAbs∣(den n d).natAbs:=by
  have z:q.natAbs∣p.natAbs*(den n d).natAbs:=by
   rw[<- natAbs_mul,key,natAbs_mul];exact Nat.dvd_mul_right _ _
  have c:Nat.Coprime q.natAbs p.natAbs:=by
   show Nat.gcd q.natAbs p.natAbs=1;rw[Nat.gcd_comm];exact hc
  exact c.dvd_of_dvd_mul_left z
 have n2:(den n d).natAbs∣q.natAbs:=by
  have z:(den n d).natAbs∣q.natAbs*(num n d).natAbs:=by
   rw[<- natAbs_mul,<- key,natAbs_mul];exact Nat.dvd_mul_left _ _
  have c:Nat.Coprime (den n d).natAbs (num n d).natAbs:=by
   show Nat.gcd (den n d).natAbs (num n d).natAbs=1;rw[Nat.gcd_comm];exact hk
  exact c.dvd_of_dvd_mul_right z
 have e1:den n d=q:=by
  have:=Nat.dvd_antisymm n1 n2;omega
 refine⟨?_,e1⟩;rw[e1]at key;have:q*p=q*num n d:=by rw[mul_comm q p];exact key
 exact(Int.eq_of_mul_eq_mul_left (ne_of_gt hq) this).symm
theorem self{p q:Int}(hq:0<q)(hc:gcd p q=1):num p q=p/\den p q=q:=uniq (ne_of_gt hq) hq hc (mul_comm p q)
theorem turned(h:d≠0):num (0-n) (0-d)=num n d/\den (0-n) (0-d)=den n d:=by
 refine uniq (by omega) (den_pos h) (LO h) ?_;have:=Ew n d;rw[Int.mul_sub,Int.mul_sub,this,mul_zero,mul_zero]
theorem ED(h:d≠0):(num n d).natAbs<=n.natAbs:=by
 have e:=congrArg Int.natAbs (num_mul n d);rw[natAbs_mul]at e;have:1<=(dv n d).natAbs:=by rw[vj];exact oI h
 calc (num n d).natAbs=(num n d).natAbs*1:=(mul_one _).symm
  _<=(num n d).natAbs*(dv n d).natAbs:=Nat.mul_le_mul_left _ this
  _=n.natAbs:=e
theorem EE(h:d≠0):(den n d).natAbs<=d.natAbs:=by
 have e:=congrArg Int.natAbs (den_mul n d);rw[natAbs_mul]at e;have:1<=(dv n d).natAbs:=by rw[vj];exact oI h
 calc (den n d).natAbs=(den n d).natAbs*1:=(mul_one _).symm
  _<=(den n d).natAbs*(dv n d).natAbs:=Nat.mul_le_mul_left _ this
  _=d.natAbs:=e
end
end Fr
namespace Fr
noncomputable section
def nd:List (Int×Int)->Int×Int
 |[]=>(0,1)
 |x::l=>(x.1*(nd l).2+(nd l).1*x.2,x.2*(nd l).2)
theorem congr{n d n' d':Int}(h:d≠0)(h':d'≠0)(e:n*d'=n'*d):num n d=num n' d'/\den n d=den n' d':=by
 have c:=Ew n' d';refine uniq h (den_pos h') (LO h') ?_

 have:(num n' d'*d)*d'=(den n' d'*n)*d':=by
  calc (num n' d'*d)*d'=(num n' d'*d')*d:=by grind
   _=(den n' d'*n')*d:=by rw[c]
   _=den n' d'*(n'*d):=by grind
   _=den n' d'*(n*d'):=by rw[e]
   _=(den n' d'*n)*d':=by grind
 exact Int.eq_of_mul_eq_mul_right h' this
end
end Fr
namespace Fr
noncomputable section
theorem ji(q:Rat):(q.num:Rat)=q*(q.den:Rat):=by
 have e:q=(q.num:Rat)/(q.den:Rat):=by rw[<- Rat.mkRat_eq_div,mkRat_self]
 have h:(q.den:Rat)≠0:=λz=>q.den_nz (Rat.natCast_eq_zero_iff.mp z);generalize (q.num:Rat)=a at *;generalize (q.den:Rat)=b at *;grind
theorem zG(n:Int)(d:Nat)(h:d≠0):num n d=(mkRat n d).num/\den n d=((mkRat n d).den:Int):=by
 refine uniq (by omega) (by have:=(mkRat n d).den_pos;omega) ?_ ?_
 ·have:=(mkRat n d).reduced;show Nat.gcd _ _=1;rw[natAbs_natCast];exact this
 ·have e:=(Rat.mkRat_eq_iff (mkRat n d).den_nz h).mp (mkRat_self (mkRat n d));rw[e];exact mul_comm _ _
theorem C6(a b:Rat):num (a.num*b.den+b.num*a.den) (a.den*b.den)=(a+b).num/\den (a.num*b.den+b.num*a.den) (a.den*b.den)=((a+b).den:Int):=by
 have:=zG (a.num*b.den+b.num*a.den) (a.den*b.den) (Nat.mul_ne_zero a.den_nz b.den_nz);rw[Rat.add_def'];rw[Int.natCast_mul]at this;exact this
theorem Mz(a b:Rat):num (a.num*b.den-b.num*a.den) (a.den*b.den)=(a-b).num/\den (a.num*b.den-b.num*a.den) (a.den*b.den)=((a-b).den:Int):=by
 have:=zG (a.num*b.den-b.num*a.den) (a.den*b.den) (Nat.mul_ne_zero a.den_nz b.den_nz);rw[Rat.sub_def'];rw[Int.natCast_mul]at this;exact this
theorem C5(a b:Rat):num (a.num*b.num) (a.den*b.den)=(a*b).num/\den (a.num*b.num) (a.den*b.den)=((a*b).den:Int):=by
 have:=zG (a.num*b.num) (a.den*b.den) (Nat.mul_ne_zero a.den_nz b.den_nz);rw[Rat.mul_def'];rw[Int.natCast_mul]at this;exact this
theorem nU(n d:Int)(h:d≠0):num n d=((n:Rat)/(d:Rat)).num/\den n d=(((n:Rat)/(d:Rat)).den:Int):=by
 have hd:(d:Rat)≠0:=λz=>h (Rat.intCast_eq_zero_iff.mp z);generalize hq:(n:Rat)/(d:Rat)=q;refine uniq h (by have:=q.den_pos;omega) ?_ ?_
 ·have:=q.reduced;show Nat.gcd _ _=1;rw[natAbs_natCast];exact this
 ·have e1:q*(d:Rat)=(n:Rat):=by rw[<- hq];exact Rat.div_mul_cancel hd
  have e2:(q.num:Rat)=q*(q.den:Rat):=ji q;have e3:((q.num*d:Int):Rat)=((q.den*n:Int):Rat):=by
   rw[intCast_mul,intCast_mul,e2,<- e1];have:(((q.den:Int)):Rat)=(q.den:Rat):=rfl;rw[this];grind
  exact Rat.intCast_inj.mp e3
theorem MA(a b:Rat)(h:b.num≠0):num (a.num*b.den) (a.den*b.num)=(a/b).num/\den (a.num*b.den) (a.den*b.num)=((a/b).den:Int):=by
 have hd:(a.den:Int)*b.num≠0:=mul_ne_zero (by have:=a.den_pos;omega) h;have:=nU (a.num*b.den) (a.den*b.num) hd;have e:((a.num*b.den:Int):Rat)/((a.den*b.num:Int):Rat)=a/b:=by
  have a1:=(ji a).symm;have b1:=(ji b).symm;have ad:(a.den:Rat)≠0:=λz=>by
   have:=a.den_pos;have z':((a.den:Int):Rat)=0:=z;have:=Rat.intCast_eq_zero_iff.mp z';omega
  have bd:(b.den:Rat)≠0:=λz=>by
   have:=b.den_pos;have z':((b.den:Int):Rat)=0:=z;have:=Rat.intCast_eq_zero_iff.mp z';omega
  rw[intCast_mul,intCast_mul,<- a1,<- b1];have c1:(((b.den:Int)):Rat)=(b.den:Rat):=rfl;have c2:(((a.den:Int)):Rat)=(a.den:Rat):=rfl;rw[c1,c2];have b0:b≠0:=λz=>h (by rw[z];rfl);grind
 rw[e]at this;exact this
theorem OK(a b:Rat):(a<b)↔a.num*b.den<b.num*a.den:=Rat.lt_iff a b
end
end Fr
namespace FM
noncomputable section
def sm:Nat->(Nat->Rat)->Rat
 |0,_=>0
 |k+1,f=>sm k f+f k
theorem aE{f g:Nat->Rat}:∀{k:Nat},(∀i,i<k->f i=g i)->sm k f=sm k g
 |0,_=>rfl
 |k+1,h=>by
  show sm k f+f k=sm k g+g k;rw[aE (λi hi=>h i (by omega)),h k (by omega)]
theorem gA{f:Nat->Rat}:∀{k:Nat},(∀i,i<k->f i=0)->sm k f=0
 |0,_=>rfl
 |k+1,h=>by
  show sm k f+f k=0;rw[gA (λi hi=>h i (by omega)),h k (by omega)];grind
theorem dQ{f g:Nat->Rat}:∀k:Nat,sm k (λi=>f i+g i)=sm k f+sm k g
 |0=>by show(0:Rat)=0+0;grind
 |k+1=>by
  show sm k (λi=>f i+g i)+(f k+g k)=(sm k f+f k)+(sm k g+g k);rw[dQ k];grind
theorem bw{f:Nat->Rat}(c:Rat):∀k:Nat,sm k (λi=>c*f i)=c*sm k f
 |0=>by show(0:Rat)=c*0;grind
 |k+1=>by
  show sm k (λi=>c*f i)+c*f k=c*(sm k f+f k);rw[bw c k];grind
theorem DF{f g:Nat->Rat}:∀{k:Nat},(∀i,i<k->f i<=g i)->sm k f<=sm k g
 |0,_=>by show(0:Rat)<=0;grind
 |k+1,h=>by
  have:=DF (k:=k) λi hi=>h i (by omega);have:=h k (by omega);show sm k f+f k<=sm k g+g k;grind
theorem KJ{f g:Nat->Rat}:∀{k:Nat},(∀i,i<k->f i<=g i)->(∃i,i<k/\f i<g i)->sm k f<sm k g
 |0,_,⟨i,hi,_⟩=>by omega
 |k+1,h,⟨i,hi,hl⟩=>by
  have h1:=h k (by omega);show sm k f+f k<sm k g+g k;by_cases e:i=k
  ·subst e;have:=DF (k:=i) λj hj=>h j (by omega);grind
  ·have:=KJ (k:=k) (λj hj=>h j (by omega)) ⟨i,by omega,hl⟩;grind
theorem uB{f g:Nat->Rat}{p:Nat}{v:Rat}:∀{k:Nat},p<k->sm k (λi=>(if i=p then v else f i)*g i)=sm k (λi=>f i*g i)+(v-f p)*g p
 |0,h=>by omega
 |k+1,h=>by
  show sm k (λi=>(if i=p then v else f i)*g i)+(if k=p then v else f k)*g k=(sm k (λi=>f i*g i)+f k*g k)+(v-f p)*g p;by_cases e:k=p
  ·rw[aE (g:=λi=>f i*g i) (λi hi=>by rw[if_neg (by omega)]),if_pos e,<- e];grind
  ·rw[uB (k:=k) (by omega),if_neg e];grind
theorem rP{f:Nat->Nat->Rat}(m:Nat):∀k:Nat,sm k (λi=>sm m (λc=>f i c))=sm m (λc=>sm k (λi=>f i c))
 |0=>(gA λ_ _=>rfl).symm
 |k+1=>by
  show sm k (λi=>sm m (λc=>f i c))+sm m (λc=>f k c)=_;rw[rP m k,<- dQ];rfl
theorem yS{f:Nat->Rat}{p:Nat}:∀{k:Nat},p<k->sm k f=sm k (λi=>if i=p then 0 else f i)+f p
 |0,h=>by omega
 |k+1,h=>by
  show sm k f+f k=(sm k (λi=>if i=p then 0 else f i)+(if k=p then 0 else f k))+f p;by_cases e:k=p
  ·rw[aE (f:=λi=>if i=p then 0 else f i) (g:=f) (λi hi=>if_neg (by omega)),if_pos e,<- e];grind
  ·rw[yS (k:=k) (p:=p) (by omega),if_neg e];grind
theorem AI{P:Nat->Prop}(f:Nat->Rat):∀{k:Nat},(∃i,i<k/\P i)->∃i,i<k/\P i/\∀j,j<k->P j->f i<=f j
 |0,⟨i,hi,_⟩=>by omega
 |k+1,⟨i,hi,hp⟩=>by
  by_cases h:∃i,i<k/\P i
  ·obtain⟨m,hm,pm,lm⟩:=AI f h;by_cases c:P k/\f k<f m
   ·refine⟨k,by omega,c.1,λj hj pj=>?_⟩;by_cases e:j=k
    ·subst e;grind
    ·have:=lm j (by omega) pj;grind
   ·refine⟨m,by omega,pm,λj hj pj=>?_⟩;by_cases e:j=k
    ·subst e;have:¬f j<f m:=λz=>c ⟨pj,z⟩;grind
    ·exact lm j (by omega) pj
  ·have e:i=k:=by
    by_cases e:i=k
    ·exact e
    ·exact absurd ⟨i,by omega,hp⟩ h
   subst e;refine⟨i,by omega,hp,λj hj pj=>?_⟩;by_cases e:j=i
   ·subst e;grind
   ·exact absurd ⟨j,by omega,pj⟩ h
def cnt:Nat->(Nat->Rat)->Nat
 |0,_=>0
 |k+1,u=>cnt k u+(if u k=0 then 0 else 1)
theorem AX{u v:Nat->Rat}:∀{k:Nat},(∀i,i<k->u i=0->v i=0)->cnt k v<=cnt k u
 |0,_=>le_refl _
 |k+1,h=>by
  have h1:=AX (k:=k) λi hi=>h i (by omega);show cnt k v+(if v k=0 then 0 else 1)<=cnt k u+(if u k=0 then 0 else 1);by_cases e:u k=0
  ·rw[if_pos e,if_pos (h k (by omega) e)];omega
  ·rw[if_neg e];split<;>omega
theorem vq{u v:Nat->Rat}:∀{k:Nat},(∀i,i<k->u i=0->v i=0)->(∃i,i<k/\v i=0/\u i≠0)->cnt k v<cnt k u
 |0,_,⟨i,hi,_⟩=>by omega
 |k+1,h,⟨i,hi,h1,h2⟩=>by
  show cnt k v+(if v k=0 then 0 else 1)<cnt k u+(if u k=0 then 0 else 1);by_cases e:i=k
  ·subst e;have:=AX (k:=i) λj hj=>h j (by omega);rw[if_pos h1,if_neg h2];omega
  ·have:=vq (k:=k) (λj hj=>h j (by omega)) ⟨i,by omega,h1,h2⟩;by_cases e2:u k=0
   ·rw[if_pos e2,if_pos (h k (by omega) e2)];omega
   ·rw[if_neg e2];split<;>omega
def kF:Nat->(Nat->Rat)->List Nat
 |0,_=>[]
 |k+1,u=>if u k=0 then kF k u else k::kF k u
theorem tq{u:Nat->Rat}:∀k:Nat,(kF k u).length=cnt k u
 |0=>rfl
 |k+1=>by
  show(if u k=0 then kF k u else k::kF k u).length=cnt k u+(if u k=0 then 0 else 1);split
  ·exact tq k
  ·rw[length_cons,tq k]
theorem mE{u:Nat->Rat}:∀{k i:Nat},i∈kF k u->i<k/\u i≠0
 |0,i,h=>by simp[kF]at h
 |k+1,i,h=>by
  have h':i∈(if u k=0 then kF k u else k::kF k u):=h;split at h'
  ·have:=mE h';exact⟨by omega,this.2⟩
  ·rename_i e;rcases mem_cons.mp h' with r|r
   ·subst r;exact⟨by omega,e⟩
   ·have:=mE r;exact⟨by omega,this.2⟩
theorem oV{u:Nat->Rat}:∀k:Nat,(kF k u).Nodup
 |0=>nodup_nil
 |k+1=>by
  show(if u k=0 then kF k u else k::kF k u).Nodup;split
  ·exact oV k
  ·exact nodup_cons.mpr ⟨λh=>by have:=(mE h).1;omega,oV k⟩
theorem AR{k:Nat}:∀(E:List Nat) (B:Nat->Nat->Rat) (S:List Nat),S.Nodup->(∀i∈S,i<k)->E.length<S.length->
  ∃d:Nat->Rat,(∀i,i∉S->d i=0)/\(∃i∈S,d i≠0)/\∀c∈E,sm k (λi=>d i*B i c)=0
 |[],B,S,hn,hk,hl=>by
  cases S with
  |nil=>simp at hl
  |cons p S=>
   refine⟨λi=>if i=p then 1 else 0,λi hi=>if_neg λe=>hi (by rw[e];exact mem_cons_self),⟨p,mem_cons_self,?_⟩,λc hc=>by simp at hc⟩;show(if p=p then(1:Rat)else 0)≠0;rw[if_pos rfl];grind
 |c::E,B,S,hn,hk,hl=>by
  rw[length_cons]at hl;by_cases h:∃p∈S,B p c≠0
  ·obtain⟨p,hp,hb⟩:=h;have Lh:p∉S.erase p:=λz=>by
    rw[hn.mem_erase_iff]at z;exact z.1 rfl
   have Hg:E.length<(S.erase p).length:=by rw[List.length_erase_of_mem hp];omega
   obtain⟨d,d1,⟨q,hq,dq⟩,d3⟩:=AR E (λi c'=>B i c'-B i c/B p c*B p c') (S.erase p) (hn.erase p) (λi hi=>hk i (List.mem_of_mem_erase hi)) Hg;have dp:d p=0:=d1 p Lh;refine⟨λi=>if i=p then-(sm k (λi=>d i*B i c))/B p c else d i,λi hi=>?_,⟨q,List.mem_of_mem_erase hq,?_⟩,λc' hc=>?_⟩
   ·have e:i≠p:=λe=>hi (by rw[e];exact hp);dsimp only;rw[if_neg e];exact d1 i λz=>hi (List.mem_of_mem_erase z)
   ·have e:q≠p:=λe=>Lh (e▸hq);dsimp only;rw[if_neg e];exact dq
   ·dsimp only;rw[uB (hk p hp),dp];rcases mem_cons.mp hc with e|hc
    ·subst e;have:(- (sm k (λi=>d i*B i c'))/B p c'-0)*B p c'=- sm k (λi=>d i*B i c'):=by grind
     rw[this];grind
    ·have h3:=d3 c' hc;have e1:sm k (λi=>d i*(B i c'-B i c/B p c*B p c'))=sm k (λi=>d i*B i c')+(- (B p c'/B p c))*sm k (λi=>d i*B i c):=by
      rw[<- bw,<- dQ];exact aE λi _=>by grind
     rw[e1]at h3;grind
  ·have h':∀p∈S,B p c=0:=λp hp=>by
    by_cases e:B p c=0
    ·exact e
    ·exact absurd ⟨p,hp,e⟩ h
   obtain⟨d,d1,d2,d3⟩:=AR E B S hn hk (by omega);refine⟨d,d1,d2,λc' hc=>?_⟩;rcases mem_cons.mp hc with e|hc
   ·subst e;refine gA λi _=>?_;by_cases m:i∈S
    ·rw[h' i m];grind
    ·rw[d1 i m];grind
   ·exact d3 c' hc
structure jz (k:Nat) (J:Nat->Prop) (E:List Nat) (B:Nat->Nat->Rat) (u:Nat->Rat):Prop where
 nn:∀i,i<k->0<=u i
 off:∀i,i<k->¬J i->u i=0
 og:∀c∈E,sm k (λi=>u i*B i c)=0
structure rH (k:Nat) (J:Nat->Prop) (E:List Nat) (B:Nat->Nat->Rat) (u:Nat->Rat):Prop where
 gZ:jz k J E B u
 ne:∃i,i<k/\u i≠0
 alone:∀v,jz k J E B v->(∀i,i<k->u i=0->v i=0)->∃c:Rat,0<=c/\∀i,i<k->v i=c*u i
variable {a b c:Rat}
theorem GN(hc:0<c)(h:b<=a/c):b*c<=a:=by
 have:=Rat.mul_le_mul_of_nonneg_left h (le_of_lt hc);have e:c*(a/c)=a:=by grind
 rw[e]at this;grind
theorem bL(ha:0<a)(hb:0<b):0<a*b:=Rat.mul_pos ha hb
theorem dg(ha:0<=a)(hb:0<=b):0<=a*b:=Rat.mul_nonneg ha hb
variable {k:Nat} {u:Nat->Rat}
theorem xb{d:Nat->Rat}(hu:∀i,i<k->0<=u i)(hz:∀i,i<k->u i=0->d i=0)(hp:∃i,i<k/\0<d i):
  ∃l:Rat,0<l/\(∀i,i<k->0<=u i-l*d i)/\∃i,i<k/\0<d i/\u i-l*d i=0:=by
 obtain⟨m,hm,pm,lm⟩:=AI (P:=λi=>0<d i) (λi=>u i/d i) hp;have um:0<u m:=by
  have h1:=hu m hm;have h2:u m≠0:=λe=>by have:=hz m hm e;grind
  grind
 refine⟨u m/d m,?_,λi hi=>?_,m,hm,pm,by grind⟩
 ·have:0<(d m)⁻¹:=inv_pos.mpr pm;have:=bL um this;grind
 ·by_cases c:0<d i
  ·have:=GN c (lm i hi c);grind
  ·have h1:0<u m/d m:=by
    have:0<(d m)⁻¹:=inv_pos.mpr pm;have:=bL um this;grind
   have h2:=dg (le_of_lt h1) (show 0<=- d i by grind);have:=hu i hi;grind
variable {E:List Nat} {J:Nat->Prop} {B:Nat->Nat->Rat}
theorem jz.sub{l:Rat}{d:Nat->Rat}(hu:jz k J E B u)(ho:∀i,i<k->¬J i->d i=0)(hd:∀c∈E,sm k (λi=>d i*B i c)=0)(hn:∀i,i<k->0<=u i-l*d i):jz k J E B (λi=>u i-l*d i):=by
 refine⟨hn,λi hi hj=>by rw[hu.off i hi hj,ho i hi hj];grind,λc hc=>?_⟩;have e:sm k (λi=>(u i-l*d i)*B i c)=sm k (λi=>u i*B i c)+(-l)*sm k (λi=>d i*B i c):=by
  rw[<- bw,<- dQ];exact aE λi _=>by grind
 rw[e,hu.og c hc,hd c hc];grind
theorem rH.QV(h:rH k J E B u):cnt k u<=E.length+1:=by
 apply Nat.le_of_not_lt
 intro dw;rw[<- tq]at dw;cases hs:kF k u with
 |nil=>rw[hs]at dw;simp at dw
 |cons p S=>
  rw[hs,length_cons]at dw;have Uc:=oV (u:=u) k;rw[hs]at Uc;obtain⟨Lh,Xt⟩:=nodup_cons.mp Uc;have qT:∀i∈S,i<k/\u i≠0:=λi hi=>mE (u:=u) (by rw[hs];exact mem_cons_of_mem _ hi);have Ha:p<k/\u p≠0:=mE (u:=u) (by rw[hs];exact mem_cons_self);obtain⟨d,d1,⟨q,hq,dq⟩,d3⟩:=AR E B S Xt (λi hi=>(qT i hi).1) (by omega)

  have main:∀d:Nat->Rat,(∀i,i∉S->d i=0)->(∀c∈E,sm k (λi=>d i*B i c)=0)->¬ ∃i,i∈S/\0<d i:=by
   rintro d d1 d3 ⟨q,hq,dq⟩;have hz:∀i,i<k->u i=0->d i=0:=λi _ e=>d1 i λz=>(qT i z).2 e;obtain⟨l,lp,h1,_⟩:=xb h.gZ.nn hz ⟨q,(qT q hq).1,dq⟩;have hc:=h.gZ.sub (λi hi hj=>hz i hi (h.gZ.off i hi hj)) d3 h1;obtain⟨c,_,hv⟩:=h.alone _ hc λi hi e=>by rw[e,hz i hi e];grind
   have e1:=hv p Ha.1;rw[d1 p Lh]at e1;have c1:c=1:=by
    have:(c-1)*u p=0:=by grind
    rcases mul_eq_zero.mp this with e|e
    ·grind
    ·exact absurd e Ha.2
   have e2:=hv q (qT q hq).1;rw[c1]at e2;have:l*d q=0:=by grind
   have:=bL lp dq;grind
  by_cases c:0<d q
  ·exact main d d1 d3 ⟨q,hq,c⟩
  ·refine main (λi=>- d i) (λi hi=>by rw[d1 i hi];grind) (λc' hc=>?_) ⟨q,hq,by grind⟩;have:sm k (λi=>- d i*B i c')=(-1)*sm k (λi=>d i*B i c'):=by
    rw[<- bw];exact aE λi _=>by grind
   rw[this,d3 c' hc];grind
variable {v:Nat->Rat}
def lsum (L:List (Nat->Rat)) (i:Nat):Rat:=match L with
 |[]=>0
 |v::r=>v i+lsum r i
theorem Jx(L M:List (Nat->Rat))(i:Nat):lsum (L++M) i=lsum L i+lsum M i:=by
 induction L with
 |nil=>show lsum M i=0+lsum M i;grind
 |cons v L ih=>show v i+lsum (L++M) i=(v i+lsum L i)+lsum M i;rw[ih];grind
theorem rH.scale(hc:0<c)(h:rH k J E B u):rH k J E B (λi=>c*u i):=by
 refine⟨⟨λi hi=>dg (le_of_lt hc) (h.gZ.nn i hi),λi hi hj=>by rw[h.gZ.off i hi hj];grind,λc' jk=>?_⟩,?_,λv hv hz=>?_⟩
 ·have:sm k (λi=>c*u i*B i c')=c*sm k (λi=>u i*B i c'):=by
   rw[<- bw];exact aE λi _=>by grind
  rw[this,h.gZ.og c' jk];grind
 ·obtain⟨i,hi,cx⟩:=h.ne;refine⟨i,hi,λe=>?_⟩;rcases mul_eq_zero.mp e with e|e
  ·grind
  ·exact cx e
 ·obtain⟨l,h0,hl⟩:=h.alone v hv λi hi e=>hz i hi (by rw[e];grind);have ci:0<c⁻¹:=inv_pos.mpr hc;refine⟨l*c⁻¹,dg h0 (le_of_lt ci),λi hi=>?_⟩;rw[hl i hi];grind
theorem parted:∀(m:Nat) (u:Nat->Rat),cnt k u<=m->jz k J E B u->∃L:List (Nat->Rat),(∀v∈L,rH k J E B v/\∀i,i<k->u i=0->v i=0)/\∀i,i<k->u i=lsum L i:=by
 intro m;induction m with
 |zero=>
  intro u hm hc;refine⟨[],λv hv=>by simp at hv,λi hi=>?_⟩;show u i=0;by_cases e:u i=0
  ·exact e
  ·have:=vq (u:=u) (v:=λ_=>0) (k:=k) (λ_ _ _=>rfl) ⟨i,hi,rfl,e⟩;omega
 |succ m ih=>
  intro u hm hc;by_cases h0:∃i,i<k/\u i≠0
  ·by_cases he:rH k J E B u
   ·refine⟨[u],λv hv=>?_,λi hi=>?_⟩
    ·rw[mem_singleton.mp hv];exact⟨he,λ_ _ e=>e⟩
    ·show u i=u i+0;grind
   ·
    have hx:∃v,jz k J E B v/\(∀i,i<k->u i=0->v i=0)/\¬ ∃c:Rat,0<=c/\∀i,i<k->v i=c*u i:=by
     apply Classical.byContradiction
     intro hx;apply he
     refine⟨hc,h0,λv hv hz=>?_⟩;apply Classical.byContradiction
     intro hn;exact hx ⟨v,hv,hz,hn⟩
    obtain⟨v,hv,hz,hn⟩:=hx

    have gq:∃i,i<k/\0<u i:=by
     obtain⟨i,hi,cx⟩:=h0;have:=hc.nn i hi;exact⟨i,hi,by grind⟩
    obtain⟨q,hq,pq,lq⟩:=AI (P:=λi=>0<u i) (λi=>v i/u i) gq;have X4:0<=v q/u q:=by
     have h1:0<(u q)⁻¹:=inv_pos.mpr pq;have:=dg (hv.nn q hq) (le_of_lt h1);grind
    have n1:∀i,i<k->0<=v i-v q/u q*u i:=λi hi=>by
     by_cases c:0<u i
     ·have:=GN c (lq i hi c);grind
     ·have:=hc.nn i hi;have e:u i=0:=by grind
      rw[e,hz i hi e];grind
    have c1:=hv.sub (l:=v q/u q) hc.off hc.og n1;generalize Xu:v q/u q=mu at *;have z1:∀i,i<k->u i=0->v i-mu*u i=0:=λi hi e=>by rw[e,hz i hi e];grind
    have WJ:v q-mu*u q=0:=by rw[<- Xu];grind
    have WK:∃i,i<k/\0<v i-mu*u i:=by
     apply Classical.byContradiction
     intro A7;apply hn
     refine⟨mu,X4,λi hi=>?_⟩;have a1:=n1 i hi;have a2:¬0<v i-mu*u i:=λz=>A7 ⟨i,hi,z⟩;grind
    have k1:=vq (u:=u) (v:=λi=>v i-mu*u i) (k:=k) z1 ⟨q,hq,WJ,by grind⟩

    obtain⟨l,lp,n2,s,hs,ps,es⟩:=xb hc.nn z1 WK;have c2:=hc.sub c1.off c1.og n2;have z2:∀i,i<k->u i=0->u i-l*(v i-mu*u i)=0:=λi hi e=>by rw[z1 i hi e,e];grind
    have us:u s≠0:=λe=>by have:=z1 s hs e;grind
    have k2:=vq (u:=u) (v:=λi=>u i-l*(v i-mu*u i)) (k:=k) z2 ⟨s,hs,es,us⟩;obtain⟨L1,a1,b1⟩:=ih _ (by omega) c1;obtain⟨L2,a2,b2⟩:=ih _ (by omega) c2;have sc:∀(L:List (Nat->Rat)) (i:Nat),lsum (L.map λw=>λi=>l*w i) i=l*lsum L i:=λL i=>by
     induction L with
     |nil=>show(0:Rat)=l*0;grind
     |cons w L ih=>show l*w i+lsum (L.map λw=>λi=>l*w i) i=l*(w i+lsum L i);rw[ih];grind
    refine⟨L1.map (λw=>λi=>l*w i)++L2,λw hw=>?_,λi hi=>?_⟩
    ·rcases mem_append.mp hw with h|h
     ·obtain⟨w',H0,rfl⟩:=mem_map.mp h;obtain⟨e1,e2⟩:=a1 w' H0;exact⟨e1.scale lp,λi hi e=>by
       show l*w' i=0;rw[e2 i hi (z1 i hi e)];grind⟩
     ·obtain⟨e1,e2⟩:=a2 w h;exact⟨e1,λi hi e=>e2 i hi (z2 i hi e)⟩
    ·rw[Jx,sc,<- b1 i hi,<- b2 i hi];grind
  ·refine⟨[],λv hv=>by simp at hv,λi hi=>?_⟩;show u i=0;by_cases e:u i=0
   ·exact e
   ·exact absurd ⟨i,hi,e⟩ h0
inductive Kn where
 |eq|le|lt
deriving DecidableEq
structure Rw where
 kd:Kn
 a:Nat->Rat
 b:Rat
 w:Nat->Rat
def rel:Kn->Rat->Rat->Prop
 | .eq,x,y=>x=y
 | .le,x,y=>x<=y
 | .lt,x,y=>x<y
def vl (n:Nat) (r:Rw) (x:Nat->Rat):Rat:=sm (n+1) λc=>r.a c*x c
def Hd (n:Nat) (x:Nat->Rat) (r:Rw):Prop:=rel r.kd (vl n r x) r.b
def uo (J:Nat->Bool) (r:Rw) (i:Nat):Rat:=if J i=true then r.w i else 0
structure Sg (n k j:Nat) (J St:Nat->Bool) (E:List Nat) (B:Nat->Nat->Rat) (β:Nat->Rat) (R:List Rw):Prop where
 jn:j<=n
 zero:∀r∈R,∀c,c<j->r.a c=0
 ej:∀c∈E,c<j
 xN:∀r∈R,r.kd=.eq->∀i,i<k->J i=true->r.w i=0
 nn:∀r∈R,r.kd≠.eq->∀i,i<k->J i=true->0<=r.w i
 pos:∀r∈R,r.kd≠.eq->∃i,i<k/\J i=true/\0<r.w i
 st:∀r∈R,r.kd≠.eq->(r.kd=.lt↔∃i,i<k/\J i=true/\St i=true/\0<r.w i)
 va:∀r∈R,r.kd≠.eq->∀c,c<=n->r.a c=sm k λi=>uo J r i*B i c
 vb:∀r∈R,r.kd≠.eq->r.b=sm k λi=>uo J r i*β i
 all:∀u,rH k (λi=>J i=true) E B u->∃r∈R,r.kd≠.eq/\∃c:Rat,0<c/\∀i,i<k->J i=true->r.w i=c*u i
variable {β:Nat->Rat} {n:Nat}
def gp (n:Nat) (B:Nat->Nat->Rat) (β:Nat->Rat) (x:Nat->Rat) (i:Nat):Rat:=sm (n+1) (λc=>B i c*x c)-β i
def Fx (n k:Nat) (B:Nat->Nat->Rat) (β:Nat->Rat) (x u:Nat->Rat):Rat:=sm k λi=>u i*gp n B β x i
variable {x:Nat->Rat}
theorem Iv(p q:Rat):Fx n k B β x (λi=>p*u i+q*v i)=p*Fx n k B β x u+q*Fx n k B β x v:=by
 unfold Fx;rw[<- bw,<- bw,<- dQ];exact aE λi _=>by grind
theorem Ko(h:∀i,i<k->v i=c*u i):Fx n k B β x v=c*Fx n k B β x u:=by
 unfold Fx;rw[<- bw];exact aE λi hi=>by rw[h i hi];grind
variable {J:Nat->Bool} {r:Rw}
theorem Bh(ha:∀c,c<=n->r.a c=sm k λi=>uo J r i*B i c)(hb:r.b=sm k λi=>uo J r i*β i):Fx n k B β x (uo J r)=vl n r x-r.b:=by
 have e1:vl n r x=sm k (λi=>uo J r i*sm (n+1) (λc=>B i c*x c)):=by
  unfold vl;rw[aE (g:=λc=>sm k λi=>uo J r i*B i c*x c) (λc hc=>by
   rw[ha c (by omega)];rw[show(sm k λi=>uo J r i*B i c)*x c=x c*(sm k λi=>uo J r i*B i c) by grind,<- bw];exact aE λi _=>by grind)]
  rw[<- rP];refine aE λi _=>?_;rw[<- bw];exact aE λc _=>by grind
 rw[e1,hb];unfold Fx gp;have:(sm k λi=>uo J r i*(sm (n+1) (λc=>B i c*x c)-β i))=(sm k λi=>uo J r i*sm (n+1) (λc=>B i c*x c))+(-1)*sm k λi=>uo J r i*β i:=by
  rw[<- bw,<- dQ];exact aE λi _=>by grind
 rw[this];grind
variable {j:Nat}
variable {R:List Rw} {St:Nat->Bool} in
theorem rM(S:Sg n k j J St E B β R)(hr:r∈R)(hk:r.kd≠.eq):jz k (λi=>J i=true) E B (uo J r):=by
 refine⟨λi hi=>?_,λi hi hj=>?_,λc hc=>?_⟩
 ·unfold uo;split
  ·exact S.nn r hr hk i hi (by assumption)
  ·grind
 ·exact if_neg hj
 ·have h:=S.va r hr hk c (by have:=S.ej c hc;have:=S.jn;omega);rw[<- h];exact S.zero r hr c (S.ej c hc)
variable {R:List Rw} {St:Nat->Bool} in
theorem Ex(S:Sg n k j J St E B β R)(hx:∀r∈R,r.kd≠.eq->Hd n x r)(hu:jz k (λi=>J i=true) E B u):
  Fx n k B β x u<=0/\((∃i,i<k/\St i=true/\0<u i)->Fx n k B β x u<0):=by
 obtain⟨L,h1,h2⟩:=parted (cnt k u) u (le_refl _) hu;have each:∀v∈L,Fx n k B β x v<=0/\((∃i,i<k/\St i=true/\0<v i)->Fx n k B β x v<0):=by
  intro v hv;obtain⟨he,hz⟩:=h1 v hv;obtain⟨r,hr,hk,c,hc,hw⟩:=S.all v he;have hd:=hx r hr hk;have e1:=Bh (x:=x) (S.va r hr hk) (S.vb r hr hk);have e2:Fx n k B β x (uo J r)=c*Fx n k B β x v:=Ko λi hi=>by
   unfold uo;by_cases hj:J i=true
   ·rw[if_pos hj,hw i hi hj]
   ·rw[if_neg hj,he.gZ.off i hi hj];grind
  have ci:0<c⁻¹:=inv_pos.mpr hc;have e3:Fx n k B β x v=c⁻¹*(vl n r x-r.b):=by rw[<- e1,e2];grind
  unfold Hd at hd;constructor
  ·have:vl n r x-r.b<=0:=by
    cases Qp:r.kd with
    |eq=>exact absurd Qp hk
    |le=>rw[Qp]at hd;have:vl n r x<=r.b:=hd;grind
    |lt=>rw[Qp]at hd;have:vl n r x<r.b:=hd;grind
   have:=dg (le_of_lt ci) (show 0<=-(vl n r x-r.b) by grind);rw[e3];grind
  ·rintro⟨i,hi,hs,hp⟩;have hj:J i=true:=by
    by_cases hj:J i=true
    ·exact hj
    ·have:=he.gZ.off i hi hj;grind
   have hl:r.kd=.lt:=(S.st r hr hk).mpr ⟨i,hi,hj,hs,by rw[hw i hi hj];exact bL hc hp⟩;rw[hl]at hd;have dM:vl n r x<r.b:=hd;have:=bL ci (show 0 < -(vl n r x-r.b) by grind);rw[e3];grind
 have BP:∀L:List (Nat->Rat),Fx n k B β x (lsum L)=L.foldr (λv s=>Fx n k B β x v+s) 0:=by
  intro L;induction L with
  |nil=>exact gA λi _=>by show(0:Rat)*_=0;grind
  |cons v L ih=>
   show _=Fx n k B β x v+L.foldr (λv s=>Fx n k B β x v+s) 0;rw[<- ih];have:=Iv (n:=n) (k:=k) (B:=B) (β:=β) (x:=x) (u:=v) (v:=lsum L) 1 1;rw[show Fx n k B β x (lsum (v::L))=Fx n k B β x (λi=>1*v i+1*lsum L i)from aE λi _=>by
    show(v i+lsum L i)*_=(1*v i+1*lsum L i)*_;grind]
   rw[this];grind
 have eu:Fx n k B β x u=Fx n k B β x (lsum L):=aE λi hi=>by rw[h2 i hi]
 rw[eu,BP];have U0:∀L:List (Nat->Rat),(∀v∈L,Fx n k B β x v<=0)->L.foldr (λv s=>Fx n k B β x v+s) 0<=0:=by
  intro L;induction L with
  |nil=>intro _;show(0:Rat)<=0;grind
  |cons v L ih=>
   intro h;have a:=h v mem_cons_self;have b:=ih λq hq=>h q (mem_cons_of_mem _ hq);show Fx n k B β x v+L.foldr (λv s=>Fx n k B β x v+s) 0<=0;grind
 refine⟨U0 L λv hv=>(each v hv).1,?_⟩;rintro⟨i,hi,hs,hp⟩;rw[h2 i hi]at hp;have TH:∀v∈L,0<=v i:=λv hv=>(h1 v hv).1.gZ.nn i hi;clear eu BP;clear h2 hu;induction L with
 |nil=>exact absurd hp (by show ¬(0:Rat)<0;grind)
 |cons v L ih=>
  have a:=(each v mem_cons_self).1;have a':=TH v mem_cons_self;have b:=U0 L λq hq=>(each q (mem_cons_of_mem _ hq)).1;show Fx n k B β x v+L.foldr (λv s=>Fx n k B β x v+s) 0<0;by_cases c:0<v i
  ·have:=(each v mem_cons_self).2 ⟨i,hi,hs,c⟩;grind
  ·have i4:0<v i+lsum L i:=hp;have:=ih (λq hq=>h1 q (mem_cons_of_mem _ hq)) (λq hq=>each q (mem_cons_of_mem _ hq)) (by grind) (λq hq=>TH q (mem_cons_of_mem _ hq));grind
structure Jd (up lo r:Rw) (j:Nat):Prop where
 kd:r.kd=if up.kd=.lt\/lo.kd=.lt then .lt else .le
 ex:∃μ:Rat,0<μ/\(∀c,r.a c=μ*(-lo.a j*up.a c+up.a j*lo.a c))/\r.b=μ*(-lo.a j*up.b+up.a j*lo.b)/\∀i,r.w i=μ*(-lo.a j*up.w i+up.a j*lo.w i)
variable {R':List Rw}
variable {R:List Rw} in
structure Pairs (k:Nat) (J:Nat->Bool) (j most:Nat) (R R':List Rw):Prop where
 pC:∀r∈R,r.kd=.eq->r.a j=0
 gg:∀r∈R',(r∈R/\r.a j=0)\/∃up∈R,∃lo∈R,0<up.a j/\lo.a j<0/\Jd up lo r j
 keep:∀r∈R,r.a j=0->∃r'∈R',r'=r
 join:∀up∈R,∀lo∈R,0<up.a j->lo.a j<0->cnt k (λi=>uo J up i+uo J lo i)<=most->∃r∈R',Jd up lo r j
theorem La{up lo:Rw}{μ:Rat}(hw:∀i,r.w i=μ*(-lo.a j*up.w i+up.a j*lo.w i))(i:Nat):uo J r i=μ*(-lo.a j*uo J up i+up.a j*uo J lo i):=by
 unfold uo;split
 ·exact hw i
 ·grind
variable {St:Nat->Bool} {R:List Rw} in
theorem Sg.pairs(S:Sg n k j J St E B β R)(hj:j<n)(P:Pairs k J j (E.length+2) R R'):Sg n k (j+1) J St (j::E) B β R':=by
 have Br:∀{up lo:Rw},up∈R->lo∈R->up.kd≠.eq->lo.kd≠.eq->0<up.a j->lo.a j<0->jz k (λi=>J i=true) (j::E) B (λi=>-lo.a j*uo J up i+up.a j*uo J lo i):=by
  intro up lo hu hl ku kl pu pl;have cu:=rM S hu ku;have cl:=rM S hl kl;refine⟨λi hi=>?_,λi hi h=>?_,λc hc=>?_⟩
  ·have a:=dg (show 0<=-lo.a j by grind) (cu.nn i hi);have b:=dg (le_of_lt pu) (cl.nn i hi);grind
  ·rw[cu.off i hi h,cl.off i hi h];grind
  ·have e:sm k (λi=>(-lo.a j*uo J up i+up.a j*uo J lo i)*B i c)=-lo.a j*sm k (λi=>uo J up i*B i c)+up.a j*sm k (λi=>uo J lo i*B i c):=by
    rw[<- bw,<- bw,<- dQ];exact aE λi _=>by grind
   rw[e];rcases mem_cons.mp hc with h|h
   ·subst h;rw[<- S.va up hu ku c (by omega),<- S.va lo hl kl c (by omega)];grind
   ·rw[cu.og c h,cl.og c h];grind
 have kq:∀{r:Rw},r∈R->r.a j≠0->r.kd≠.eq:=λhr h e=>h (P.pC _ hr e);have U4:∀{up lo r:Rw},Jd up lo r j->r.kd≠.eq:=λh=>by rw[h.kd];split<;>simp
 refine⟨by omega,λr hr c hc=>?_,λc hc=>?_,λr hr hk i hi hj=>?_,λr hr hk i hi hj=>?_,λr hr hk=>?_,λr hr hk=>?_,λr hr hk c hc=>?_,λr hr hk=>?_,λu hu=>?_⟩
 ·rcases P.gg r hr with⟨h,h0⟩|⟨up,gq,lo,gF,pu,pl,hd⟩
  ·by_cases e:c=j
   ·rw[e];exact h0
   ·exact S.zero r h c (by omega)
  ·obtain⟨μ,_,ea,_⟩:=hd.ex;rw[ea c];by_cases e:c=j
   ·rw[e];grind
   ·rw[S.zero up gq c (by omega),S.zero lo gF c (by omega)];grind
 ·rcases mem_cons.mp hc with h|h
  ·omega
  ·have:=S.ej c h;omega
 ·rcases P.gg r hr with⟨h,h0⟩|⟨up,gq,lo,gF,pu,pl,hd⟩
  ·exact S.xN r h hk i hi hj
  ·exact absurd hk (U4 hd)
 ·rcases P.gg r hr with⟨h,h0⟩|⟨up,gq,lo,gF,pu,pl,hd⟩
  ·exact S.nn r h hk i hi hj
  ·obtain⟨μ,mp,_,_,ew⟩:=hd.ex;rw[ew i];have a:=dg (show 0<=-lo.a j by grind) (S.nn up gq (kq gq (by grind)) i hi hj);have b:=dg (le_of_lt pu) (S.nn lo gF (kq gF (by grind)) i hi hj);exact dg (le_of_lt mp) (by grind)
 ·rcases P.gg r hr with⟨h,h0⟩|⟨up,gq,lo,gF,pu,pl,hd⟩
  ·exact S.pos r h hk
  ·obtain⟨μ,mp,_,_,ew⟩:=hd.ex;obtain⟨i,hi,hj,hp⟩:=S.pos up gq (kq gq (by grind));refine⟨i,hi,hj,?_⟩;rw[ew i];have a:=bL (show 0 < -lo.a j by grind) hp;have b:=dg (le_of_lt pu) (S.nn lo gF (kq gF (by grind)) i hi hj);exact bL mp (by grind)
 ·rcases P.gg r hr with⟨h,h0⟩|⟨up,gq,lo,gF,pu,pl,hd⟩
  ·exact S.st r h hk
  ·obtain⟨μ,mp,_,_,ew⟩:=hd.ex;have su:=S.st up gq (kq gq (by grind));have sl:=S.st lo gF (kq gF (by grind));have nu:=S.nn up gq (kq gq (by grind));have nl:=S.nn lo gF (kq gF (by grind));constructor
   ·intro e;rw[hd.kd]at e;split at e
    ·rename_i h;rcases h with h|h
     ·obtain⟨i,hi,hj,hs,hp⟩:=su.mp h;refine⟨i,hi,hj,hs,?_⟩;rw[ew i];have a:=bL (show 0 < -lo.a j by grind) hp;have b:=dg (le_of_lt pu) (nl i hi hj);exact bL mp (by grind)
     ·obtain⟨i,hi,hj,hs,hp⟩:=sl.mp h;refine⟨i,hi,hj,hs,?_⟩;rw[ew i];have a:=dg (show 0<=-lo.a j by grind) (nu i hi hj);have b:=bL pu hp;exact bL mp (by grind)
    ·cases e
   ·rintro⟨i,hi,hj,hs,hp⟩;rw[hd.kd,if_pos];by_cases c:0<up.w i
    ·exact .inl (su.mpr ⟨i,hi,hj,hs,c⟩)
    ·right
     refine sl.mpr ⟨i,hi,hj,hs,?_⟩;have Xc:up.w i=0:=by have:=nu i hi hj;grind
     by_cases c2:0<lo.w i
     ·exact c2
     ·have Ui:lo.w i=0:=by have:=nl i hi hj;grind
      rw[ew i,Xc,Ui]at hp;grind
 ·rcases P.gg r hr with⟨h,h0⟩|⟨up,gq,lo,gF,pu,pl,hd⟩
  ·exact S.va r h hk c hc
  ·obtain⟨μ,mp,ea,_,ew⟩:=hd.ex;rw[ea c,S.va up gq (kq gq (by grind)) c hc,S.va lo gF (kq gF (by grind)) c hc];rw[<- bw,<- bw,<- dQ,<- bw];exact aE λi _=>by rw[La ew i];grind
 ·rcases P.gg r hr with⟨h,h0⟩|⟨up,gq,lo,gF,pu,pl,hd⟩
  ·exact S.vb r h hk
  ·obtain⟨μ,mp,_,eb,ew⟩:=hd.ex;rw[eb,S.vb up gq (kq gq (by grind)),S.vb lo gF (kq gF (by grind))];rw[<- bw,<- bw,<- dQ,<- bw];exact aE λi _=>by rw[La ew i];grind
 ·
  have QV:=hu.QV;rw[length_cons]at QV;have XJ:jz k (λi=>J i=true) E B u:=⟨hu.gZ.nn,hu.gZ.off,λc hc=>hu.gZ.og c (mem_cons_of_mem _ hc)⟩;obtain⟨L,h1,h2⟩:=parted (cnt k u) u (le_refl _) XJ

  let V:(Nat->Rat)->Rat:=λv=>sm k λi=>v i*B i j;have rowOf:∀v∈L,∃r∈R,r.kd≠.eq/\∃c:Rat,0<c/\(∀i,i<k->uo J r i=c*v i)/\r.a j=c*V v:=by
   intro v hv;obtain⟨he,hz⟩:=h1 v hv;obtain⟨r,hr,hk,c,hc,hw⟩:=S.all v he;have e:∀i,i<k->uo J r i=c*v i:=λi hi=>by
    unfold uo;by_cases hj:J i=true
    ·rw[if_pos hj,hw i hi hj]
    ·rw[if_neg hj,he.gZ.off i hi hj];grind
   refine⟨r,hr,hk,c,hc,e,?_⟩;rw[S.va r hr hk j (by omega)];show _=c*sm k λi=>v i*B i j;rw[<- bw];exact aE λi hi=>by rw[e i hi];grind
  by_cases hz:∃v∈L,V v=0
  ·obtain⟨v,hv,h0⟩:=hz;obtain⟨r,hr,hk,c,hc,hw,ha⟩:=rowOf v hv;obtain⟨he,W4⟩:=h1 v hv;obtain⟨l,l0,hl⟩:=hu.alone v ⟨he.gZ.nn,he.gZ.off,λc' jk=>by
    rcases mem_cons.mp jk with h|h
    ·subst h;exact h0
    ·exact he.gZ.og c' h⟩ W4
   have lp:0<l:=by
    obtain⟨i,hi,cx⟩:=he.ne;rcases Rat.le_iff_lt_or_eq.mp l0 with h|h
    ·exact h
    ·exact absurd (by rw[hl i hi,<- h];grind) cx
   obtain⟨r',cT,e⟩:=P.keep r hr (by rw[ha,h0];grind);subst e;refine⟨r',cT,hk,c*l,bL hc lp,λi hi hj=>?_⟩;have:=hw i hi;unfold uo at this;rw[if_pos hj,hl i hi]at this;rw[this];grind
  ·
   have VN:∀L:List (Nat->Rat),V (lsum L)=L.foldr (λv s=>V v+s) 0:=by
    intro L;induction L with
    |nil=>exact gA λi _=>by show(0:Rat)*_=0;grind
    |cons v L ih=>
     show _=V v+L.foldr (λv s=>V v+s) 0;rw[<- ih];show(sm k λi=>(v i+lsum L i)*B i j)=(sm k λi=>v i*B i j)+sm k λi=>lsum L i*B i j;rw[<- dQ];exact aE λi _=>by grind
   have BP:L.foldr (λv s=>V v+s) 0=0:=by
    rw[<- VN];have:=hu.gZ.og j mem_cons_self;rw[<- this];exact aE λi hi=>by rw[h2 i hi]
   have Vd:L≠[]:=by
    intro e;obtain⟨i,hi,cx⟩:=hu.ne;apply cx
    rw[h2 i hi,e];rfl
   have nz:∀v∈L,V v≠0:=λv hv h=>hz ⟨v,hv,h⟩;have A5:∃v∈L,0<V v:=by
    apply Classical.byContradiction
    intro A7;have neg:∀v∈L,V v<0:=λv hv=>by
     have a:=nz v hv;have b:¬0<V v:=λz=>A7 ⟨v,hv,z⟩;grind
    have:∀M:List (Nat->Rat),M≠[]->(∀v∈M,V v<0)->M.foldr (λv s=>V v+s) 0<0:=by
     intro M;induction M with
     |nil=>intro h;exact absurd rfl h
     |cons v M ih=>
      intro _ h;have a:=h v mem_cons_self;show V v+M.foldr (λv s=>V v+s) 0<0;by_cases e:M=[]
      ·subst e;show V v+0<0;grind
      ·have:=ih e λq hq=>h q (mem_cons_of_mem _ hq);grind
    have:=this L Vd neg;grind
   have JI:∃v∈L,V v<0:=by
    apply Classical.byContradiction
    intro A7;have neg:∀v∈L,0<V v:=λv hv=>by
     have a:=nz v hv;have b:¬V v<0:=λz=>A7 ⟨v,hv,z⟩;grind
    have:∀M:List (Nat->Rat),M≠[]->(∀v∈M,0<V v)->0<M.foldr (λv s=>V v+s) 0:=by
     intro M;induction M with
     |nil=>intro h;exact absurd rfl h
     |cons v M ih=>
      intro _ h;have a:=h v mem_cons_self;show 0<V v+M.foldr (λv s=>V v+s) 0;by_cases e:M=[]
      ·subst e;show 0<V v+0;grind
      ·have:=ih e λq hq=>h q (mem_cons_of_mem _ hq);grind
    have:=this L Vd neg;grind
   obtain⟨p,hp,pp⟩:=A5;obtain⟨q,hq,qn⟩:=JI;obtain⟨up,gq,ku,cu,YR,wu,au⟩:=rowOf p hp;obtain⟨lo,gF,kl,cl,YS,wl,al⟩:=rowOf q hq;have pu:0<up.a j:=by rw[au];exact bL YR pp
   have pl:lo.a j<0:=by
    have:=bL YS (show 0 < - V q by grind);rw[al];grind
   have cj:=Br gq gF ku kl pu pl;have sup:∀i,i<k->u i=0->-lo.a j*uo J up i+up.a j*uo J lo i=0:=λi hi e=>by
    rw[wu i hi,wl i hi,(h1 p hp).2 i hi e,(h1 q hq).2 i hi e];grind
   have VM:∀i,i<k->u i=0->uo J up i+uo J lo i=0:=λi hi e=>by
    rw[wu i hi,wl i hi,(h1 p hp).2 i hi e,(h1 q hq).2 i hi e];grind
   obtain⟨l,l0,hl⟩:=hu.alone _ cj sup;have hcnt:=AX (k:=k) VM;obtain⟨r,hr,hd⟩:=P.join up gq lo gF pu pl (by omega);obtain⟨μ,mp,_,_,ew⟩:=hd.ex;have lp:0<l:=by
    rcases Rat.le_iff_lt_or_eq.mp l0 with h|h
    ·exact h
    ·exfalso;obtain⟨i,hi,hj,hp⟩:=S.pos up gq ku;have e:=hl i hi;rw[<- h]at e;have a:=bL (show 0 < -lo.a j by grind) hp;have b:=dg (le_of_lt pu) (S.nn lo gF kl i hi hj);unfold uo at e;rw[if_pos hj,if_pos hj]at e;grind
   refine⟨r,hr,U4 hd,μ*l,bL mp lp,λi hi hj=>?_⟩;have e:=hl i hi;unfold uo at e;rw[if_pos hj,if_pos hj]at e;rw[ew i,e];grind
structure Wo (q r r':Rw) (j:Nat):Prop where
 kd:r'.kd=r.kd
 ex:∃μ:Rat,0<μ/\(∀c,r'.a c=μ*(r.a c-r.a j/q.a j*q.a c))/\r'.b=μ*(r.b-r.a j/q.a j*q.b)/\∀i,r'.w i=μ*(r.w i-r.a j/q.a j*q.w i)
variable {R:List Rw} in
structure EY (j:Nat) (q:Rw) (R R':List Rw):Prop where
 mem:q∈R
 eq:q.kd=.eq
 ne:q.a j≠0
 gg:∀r'∈R',∃r∈R,Wo q r r' j
 to:∀r∈R,r≠q->∃r'∈R',Wo q r r' j
variable {R:List Rw} {St:Nat->Bool} in
theorem Sg.SW{q:Rw}(S:Sg n k j J St E B β R)(hj:j<n)(G:EY j q R R'):
  Sg n k (j+1) J St E (λi c=>B i c-B i j/q.a j*q.a c) (λi=>β i-B i j/q.a j*q.b) R':=by
 have q0:∀i,i<k->J i=true->q.w i=0:=S.xN q G.mem G.eq;have wu:∀{r r':Rw} {μ:Rat},(∀i,r'.w i=μ*(r.w i-r.a j/q.a j*q.w i))->∀i,i<k->uo J r' i=μ*uo J r i:=by
  intro r r' μ h i hi;unfold uo;by_cases hj:J i=true
  ·rw[if_pos hj,if_pos hj,h i,q0 i hi hj];grind
  ·rw[if_neg hj,if_neg hj];grind
 have ww:∀{r r':Rw} {μ:Rat},(∀i,r'.w i=μ*(r.w i-r.a j/q.a j*q.w i))->∀i,i<k->J i=true->r'.w i=μ*r.w i:=by
  intro r r' μ h i hi hj;rw[h i,q0 i hi hj];grind
 refine⟨by omega,λr' cT c hc=>?_,λc hc=>?_,λr' cT hk i hi hj=>?_,λr' cT hk i hi hj=>?_,λr' cT hk=>?_,λr' cT hk=>?_,λr' cT hk c hc=>?_,λr' cT hk=>?_,λu hu=>?_⟩
 ·obtain⟨r,hr,W⟩:=G.gg r' cT;obtain⟨μ,_,ea,_⟩:=W.ex;rw[ea c];by_cases e:c=j
  ·rw[e];have:r.a j/q.a j*q.a j=r.a j:=by have:=G.ne;grind
   rw[this];grind
  ·rw[S.zero r hr c (by omega),S.zero q G.mem c (by omega)];grind
 ·have:=S.ej c hc;omega
 ·obtain⟨r,hr,W⟩:=G.gg r' cT;obtain⟨μ,mp,ea,eb,ew⟩:=W.ex;rw[ww ew i hi hj,S.xN r hr (by rw[<- W.kd];exact hk) i hi hj];grind
 ·obtain⟨r,hr,W⟩:=G.gg r' cT;obtain⟨μ,mp,ea,eb,ew⟩:=W.ex;rw[ww ew i hi hj];exact dg (le_of_lt mp) (S.nn r hr (by rw[<- W.kd];exact hk) i hi hj)
 ·obtain⟨r,hr,W⟩:=G.gg r' cT;obtain⟨μ,mp,ea,eb,ew⟩:=W.ex;obtain⟨i,hi,hj,hp⟩:=S.pos r hr (by rw[<- W.kd];exact hk);exact⟨i,hi,hj,by rw[ww ew i hi hj];exact bL mp hp⟩
 ·obtain⟨r,hr,W⟩:=G.gg r' cT;obtain⟨μ,mp,ea,eb,ew⟩:=W.ex;rw[W.kd,S.st r hr (by rw[<- W.kd];exact hk)];constructor
  ·rintro⟨i,hi,hj,hs,hp⟩;exact⟨i,hi,hj,hs,by rw[ww ew i hi hj];exact bL mp hp⟩
  ·rintro⟨i,hi,hj,hs,hp⟩;refine⟨i,hi,hj,hs,?_⟩;rw[ww ew i hi hj]at hp;have nn:=S.nn r hr (by rw[<- W.kd];exact hk) i hi hj;by_cases c:0<r.w i
   ·exact c
   ·have:r.w i=0:=by grind
    rw[this]at hp;grind
 ·obtain⟨r,hr,W⟩:=G.gg r' cT;obtain⟨μ,mp,ea,eb,ew⟩:=W.ex;have jK:r.kd≠.eq:=by rw[<- W.kd];exact hk
  rw[ea c,S.va r hr jK c hc,S.va r hr jK j (by omega)];rw[aE (f:=λi=>uo J r' i*(B i c-B i j/q.a j*q.a c)) (g:=λi=>μ*(uo J r i*B i c)+(-(μ/q.a j*q.a c))*(uo J r i*B i j)) (λi hi=>by rw[wu ew i hi];grind)];rw[dQ,bw,bw];grind
 ·obtain⟨r,hr,W⟩:=G.gg r' cT;obtain⟨μ,mp,ea,eb,ew⟩:=W.ex;have jK:r.kd≠.eq:=by rw[<- W.kd];exact hk
  rw[eb,S.vb r hr jK,S.va r hr jK j (by omega)];rw[aE (f:=λi=>uo J r' i*(β i-B i j/q.a j*q.b)) (g:=λi=>μ*(uo J r i*β i)+(-(μ/q.a j*q.b))*(uo J r i*B i j)) (λi hi=>by rw[wu ew i hi];grind)];rw[dQ,bw,bw];grind
 ·have same:∀v,jz k (λi=>J i=true) E (λi c=>B i c-B i j/q.a j*q.a c) v↔jz k (λi=>J i=true) E B v:=by
   intro v;have e:∀c∈E,(sm k λi=>v i*(B i c-B i j/q.a j*q.a c))=sm k λi=>v i*B i c:=λc hc=>by
    rw[S.zero q G.mem c (S.ej c hc)];exact aE λi _=>by grind
   exact⟨λh=>⟨h.nn,h.off,λc hc=>by rw[<- e c hc];exact h.og c hc⟩,λh=>⟨h.nn,h.off,λc hc=>by rw[e c hc];exact h.og c hc⟩⟩
  obtain⟨r,hr,hk,c,hc,hw⟩:=S.all u ⟨(same u).mp hu.gZ,hu.ne,λv hv=>hu.alone v ((same v).mpr hv)⟩;obtain⟨r',cT,W⟩:=G.to r hr (λe=>hk (by rw[e];exact G.eq));obtain⟨μ,mp,ea,eb,ew⟩:=W.ex;exact⟨r',cT,by rw[W.kd];exact hk,μ*c,bL mp hc,λi hi hj=>by rw[ww ew i hi hj,hw i hi hj];grind⟩
def rest (n:Nat) (r:Rw) (x:Nat->Rat) (j:Nat):Rat:=sm (n+1) λc=>if c=j then 0 else r.a c*x c
def Nm (n:Nat) (r:Rw) (x:Nat->Rat) (j:Nat):Rat:=(r.b-rest n r x j)/r.a j
theorem oR(hj:j<=n):vl n r x=rest n r x j+r.a j*x j:=yS (by omega)
def put (x:Nat->Rat) (j:Nat) (v:Rat):Nat->Rat:=λc=>if c=j then v else x c
variable {v:Rat}
theorem IV:rest n r (put x j v) j=rest n r x j:=aE λc _=>by
 unfold put;split<;>rfl
theorem o9(hj:j<=n):vl n r (put x j v)=rest n r x j+r.a j*v:=by
 rw[oR hj,IV];unfold put;rw[if_pos rfl]
theorem FU(h:r.a j=0):rest n r x j=vl n r x:=aE λc _=>by
 by_cases e:c=j
 ·rw[if_pos e,e,h];grind
 ·rw[if_neg e]
theorem Ae(hj:j<=n)(h:r.a j=0):Hd n (put x j v) r↔Hd n x r:=by
 unfold Hd;rw[o9 hj,h,FU h,show vl n r x+0*v=vl n r x by grind]
theorem ug(h:r.a j≠0):r.b=rest n r x j+r.a j*Nm n r x j:=by unfold Nm;grind
theorem Dv(hj:j<=n)(h:0<r.a j):vl n r (put x j v)<=r.b↔v<=Nm n r x j:=by
 rw[o9 hj,ug (n:=n) (x:=x) (j:=j) (r:=r) (by grind)];constructor
 ·intro z;have z':r.a j*v<=r.a j*Nm n r x j:=by grind
  exact Rat.le_of_mul_le_mul_left z' h
 ·intro z;have:=Rat.mul_le_mul_of_nonneg_left z (le_of_lt h);grind
theorem Du(hj:j<=n)(h:0<r.a j):vl n r (put x j v)<r.b↔v<Nm n r x j:=by
 rw[o9 hj,ug (n:=n) (x:=x) (j:=j) (r:=r) (by grind)];constructor
 ·intro z;have z':r.a j*v<r.a j*Nm n r x j:=by grind
  exact Rat.lt_of_mul_lt_mul_left z' (le_of_lt h)
 ·intro z;have:=bL h (show 0<Nm n r x j-v by grind);grind
theorem lo_le(hj:j<=n)(h:r.a j<0):vl n r (put x j v)<=r.b↔Nm n r x j<=v:=by
 rw[o9 hj,ug (n:=n) (x:=x) (j:=j) (r:=r) (by grind)];constructor
 ·intro z;have z': -r.a j*Nm n r x j<=-r.a j*v:=by grind
  exact Rat.le_of_mul_le_mul_left z' (by grind)
 ·intro z;have:=Rat.mul_le_mul_of_nonneg_left z (show 0<=-r.a j by grind);grind
theorem Ea(hj:j<=n)(h:r.a j<0):vl n r (put x j v)<r.b↔Nm n r x j<v:=by
 rw[o9 hj,ug (n:=n) (x:=x) (j:=j) (r:=r) (by grind)];constructor
 ·intro z;have z': -r.a j*Nm n r x j < -r.a j*v:=by grind
  exact Rat.lt_of_mul_lt_mul_left z' (by grind)
 ·intro z;have:=bL (show 0 < -r.a j by grind) (show 0<v-Nm n r x j by grind);grind
theorem pN(hj:j<=n)(h:r.a j≠0):vl n r (put x j v)=r.b↔v=Nm n r x j:=by
 rw[o9 hj,ug (n:=n) (x:=x) (j:=j) (r:=r) h];constructor
 ·intro z;have z':r.a j*(v-Nm n r x j)=0:=by grind
  rcases mul_eq_zero.mp z' with e|e
  ·exact absurd e h
  ·grind
 ·intro z;rw[z]
def isUp (r:Rw) (j:Nat):Prop:=0<r.a j\/(r.a j<0/\r.kd=.eq)
def pG (r:Rw) (j:Nat):Prop:=r.a j<0\/(0<r.a j/\r.kd=.eq)
variable {R:List Rw} in
structure Top (n:Nat) (R:List Rw) (x:Nat->Rat) (j:Nat) (g:Option (Bool×Rat)):Prop where
 none:g=none->∀r∈R,¬isUp r j
 some:∀s v,g=some (s,v)->(∃r∈R,isUp r j/\v=Nm n r x j/\(s=true->r.kd=.lt))/\∀r∈R,isUp r j->v<=Nm n r x j/\(r.kd=.lt->Nm n r x j=v->s=true)
variable {R:List Rw} in
structure S1 (n:Nat) (R:List Rw) (x:Nat->Rat) (j:Nat) (g:Option (Bool×Rat)):Prop where
 none:g=none->∀r∈R,¬pG r j
 some:∀s v,g=some (s,v)->(∃r∈R,pG r j/\v=Nm n r x j/\(s=true->r.kd=.lt))/\∀r∈R,pG r j->Nm n r x j<=v/\(r.kd=.lt->Nm n r x j=v->s=true)
def vv (least JQ:Option Rat):Rat:=match least,JQ with
 |none,none=>0
 |some l,none=>l+1
 |none,some g=>g-1
 |some l,some g=>(l+g)/2
variable {R:List Rw} {St:Nat->Bool} in
theorem Gn{up lo:Rw}(S':Sg n k (j+1) J St (j::E) B β R')(S:Sg n k j J St E B β R)(hj:j<n)(P:Pairs k J j (E.length+2) R R')(hx:∀r∈R',Hd n x r)(hu:up∈R)(hl:lo∈R)(pu:0<up.a j)(pl:lo.a j<0):
  Nm n lo x j<=Nm n up x j/\(up.kd=.lt\/lo.kd=.lt->Nm n lo x j<Nm n up x j):=by
 have ku:up.kd≠.eq:=λe=>by have:=P.pC up hu e;grind
 have kl:lo.kd≠.eq:=λe=>by have:=P.pC lo hl e;grind
 have cu:=rM S hu ku;have cl:=rM S hl kl;have cj:jz k (λi=>J i=true) (j::E) B (λi=>-lo.a j*uo J up i+up.a j*uo J lo i):=by
  refine⟨λi hi=>?_,λi hi h=>?_,λc hc=>?_⟩
  ·have a:=dg (show 0<=-lo.a j by grind) (cu.nn i hi);have b:=dg (le_of_lt pu) (cl.nn i hi);grind
  ·rw[cu.off i hi h,cl.off i hi h];grind
  ·have e:sm k (λi=>(-lo.a j*uo J up i+up.a j*uo J lo i)*B i c)=-lo.a j*sm k (λi=>uo J up i*B i c)+up.a j*sm k (λi=>uo J lo i*B i c):=by
    rw[<- bw,<- bw,<- dQ];exact aE λi _=>by grind
   rw[e];rcases mem_cons.mp hc with h|h
   ·subst h;rw[<- S.va up hu ku c (by omega),<- S.va lo hl kl c (by omega)];grind
   ·rw[cu.og c h,cl.og c h];grind
 obtain⟨h1,h2⟩:=Ex S' (λr hr _=>hx r hr) cj;rw[Iv,Bh (S.va up hu ku) (S.vb up hu ku),Bh (S.va lo hl kl) (S.vb lo hl kl)]at h1 h2;have bu:=ug (n:=n) (x:=x) (r:=up) (j:=j) (by grind);have bl:=ug (n:=n) (x:=x) (r:=lo) (j:=j) (by grind);have vu:=oR (n:=n) (j:=j) (r:=up) (x:=x) (by omega);have vo:=oR (n:=n) (j:=j) (r:=lo) (x:=x) (by omega);have key: -lo.a j*(vl n up x-up.b)+up.a j*(vl n lo x-lo.b)=(-lo.a j*up.a j)*(Nm n lo x j-Nm n up x j):=by
  rw[vu,vo,bu,bl];grind
 have pp:0 < -lo.a j*up.a j:=bL (by grind) pu;rw[key]at h1 h2;constructor
 ·by_cases c:Nm n lo x j<=Nm n up x j
  ·exact c
  ·have:=bL pp (show 0<Nm n lo x j-Nm n up x j by grind);grind
 ·intro hs;have sW:∃i,i<k/\St i=true/\0 < -lo.a j*uo J up i+up.a j*uo J lo i:=by
   rcases hs with hs|hs
   ·obtain⟨i,hi,Hh,hst,hp⟩:=(S.st up hu ku).mp hs;refine⟨i,hi,hst,?_⟩;have a:=bL (show 0 < -lo.a j by grind) hp;have b:=dg (le_of_lt pu) (cl.nn i hi);unfold uo at b ⊢;rw[if_pos Hh]at b ⊢;rw[if_pos Hh];grind
   ·obtain⟨i,hi,Hh,hst,hp⟩:=(S.st lo hl kl).mp hs;refine⟨i,hi,hst,?_⟩;have a:=dg (show 0<=-lo.a j by grind) (cu.nn i hi);have b:=bL pu hp;unfold uo at a ⊢;rw[if_pos Hh]at a ⊢;rw[if_pos Hh];grind
  have h3:=h2 sW;by_cases c:Nm n lo x j<Nm n up x j
  ·exact c
  ·have:=dg (le_of_lt pp) (show 0<=Nm n lo x j-Nm n up x j by grind);grind
def j8 (g:Option (Bool×Rat)):Option Rat:=g.map (·.2)
variable {R:List Rw} {St:Nat->Bool} in
theorem Hw{g l:Option (Bool×Rat)}(S':Sg n k (j+1) J St (j::E) B β R')(S:Sg n k j J St E B β R)(hj:j<n)(P:Pairs k J j (E.length+2) R R')(hx:∀r∈R',Hd n x r)(hg:Top n R x j g)(hl:S1 n R x j l):
  ∀r∈R,Hd n (put x j (vv (j8 l) (j8 g))) r:=by
 have room:=fun{up lo:Rw}=>Gn (up:=up) (lo:=lo) S' S hj P hx;have kq:∀{r:Rw},r∈R->r.a j≠0->r.kd≠.eq:=λhr h e=>h (P.pC _ hr e);have WL:∀{r:Rw},r∈R->isUp r j->0<r.a j:=λhr h=>h.elim id λz=>absurd z.2 (kq hr (by have:=z.1;grind));have X6:∀{r:Rw},r∈R->pG r j->r.a j<0:=λhr h=>h.elim id λz=>absurd z.2 (kq hr (by have:=z.1;grind));intro r hr;by_cases h0:r.a j=0
 ·obtain⟨r',cT,e⟩:=P.keep r hr h0;rw[Ae (by omega) h0,<- e];exact hx r' cT
 ·have hk:=kq hr h0;by_cases hp:0<r.a j
  ·
   have goal:∀v:Rat,(v<=Nm n r x j)->(r.kd=.lt->v<Nm n r x j)->Hd n (put x j v) r:=by
    intro v h1 h2;unfold Hd;cases e:r.kd with
    |eq=>exact absurd e hk
    |le=>exact(Dv (by omega) hp).mpr h1
    |lt=>exact(Du (by omega) hp).mpr (h2 e)
   cases eg:g with
   |none=>exact absurd (.inl hp) (hg.none eg r hr)
   |some gv=>
    obtain⟨sg,v⟩:=gv;obtain⟨_,g2⟩:=hg.some sg v eg;obtain⟨g3,g4⟩:=g2 r hr (.inl hp);cases el:l with
    |none=>
     have:vv (j8 none) (j8 (some (sg,v)))=v-1:=rfl;rw[this];exact goal _ (by grind) (λ_=>by grind)
    |some lv=>
     obtain⟨sl,v'⟩:=lv;obtain⟨⟨lo,gF,Xa,elo,_⟩,_⟩:=hl.some sl v' el;obtain⟨r1,r2⟩:=room hr gF hp (X6 gF Xa);have:vv (j8 (some (sl,v'))) (j8 (some (sg,v)))=(v'+v)/2:=rfl;rw[this];exact goal _ (by grind) (λe=>by have:=r2 (.inl e);grind)
  ·have hn:r.a j<0:=by grind
   have goal:∀v:Rat,(Nm n r x j<=v)->(r.kd=.lt->Nm n r x j<v)->Hd n (put x j v) r:=by
    intro v h1 h2;unfold Hd;cases e:r.kd with
    |eq=>exact absurd e hk
    |le=>exact(lo_le (by omega) hn).mpr h1
    |lt=>exact(Ea (by omega) hn).mpr (h2 e)
   cases el:l with
   |none=>exact absurd (.inl hn) (hl.none el r hr)
   |some lv=>
    obtain⟨sl,v'⟩:=lv;obtain⟨_,l2⟩:=hl.some sl v' el;obtain⟨l3,l4⟩:=l2 r hr (.inl hn);cases eg:g with
    |none=>
     have:vv (j8 (some (sl,v'))) (j8 none)=v'+1:=rfl;rw[this];exact goal _ (by grind) (λ_=>by grind)
    |some gv=>
     obtain⟨sg,v⟩:=gv;obtain⟨⟨up,gq,X9,eup,_⟩,_⟩:=hg.some sg v eg;obtain⟨r1,r2⟩:=room gq hr (WL gq X9) hn;have:vv (j8 (some (sl,v'))) (j8 (some (sg,v)))=(v'+v)/2:=rfl;rw[this];exact goal _ (by grind) (λe=>by have:=r2 (.inr e);grind)
variable {R:List Rw} in
theorem Hx{q:Rw}{g l:Option (Bool×Rat)}(hj:j<=n)(G:EY j q R R')(hx:∀r∈R',Hd n x r)(h0:∀r∈R',r.a j=0)(hg:Top n R x j g)(hl:S1 n R x j l):
  ∀r∈R,Hd n (put x j (vv (j8 l) (j8 g))) r:=by

 have at':∀r∈R,Hd n (put x j (Nm n q x j)) r:=by
  intro r hr;have hq:vl n q (put x j (Nm n q x j))=q.b:=(pN hj G.ne).mpr rfl;by_cases e:r=q
  ·rw[e];unfold Hd;rw[G.eq];exact hq
  ·obtain⟨r',cT,W⟩:=G.to r hr e;have hd:=(Ae (n:=n) (x:=x) (v:=Nm n q x j) hj (h0 r' cT)).mpr (hx r' cT);obtain⟨μ,mp,ea,eb,_⟩:=W.ex;generalize put x j (Nm n q x j)=y at hd hq ⊢;have ev:vl n r' y=μ*(vl n r y-r.a j/q.a j*vl n q y):=by
    unfold vl;rw[aE (g:=λc=>μ*(r.a c*y c)+(-(μ*(r.a j/q.a j)))*(q.a c*y c)) (λc _=>by rw[ea c];grind),dQ,bw,bw];grind
   unfold Hd at hd ⊢;rw[W.kd,ev,eb,hq]at hd;have mi:0<μ⁻¹:=inv_pos.mpr mp;cases hk:r.kd with
   |eq=>
    rw[hk]at hd;have dM:μ*(vl n r y-r.a j/q.a j*q.b)=μ*(r.b-r.a j/q.a j*q.b):=hd;have:μ*(vl n r y-r.b)=0:=by grind
    show vl n r y=r.b;rcases mul_eq_zero.mp this with z|z<;>grind
   |le=>
    rw[hk]at hd;have dM:μ*(vl n r y-r.a j/q.a j*q.b)<=μ*(r.b-r.a j/q.a j*q.b):=hd;have:=Rat.le_of_mul_le_mul_left dM mp;show vl n r y<=r.b;grind
   |lt=>
    rw[hk]at hd;have dM:μ*(vl n r y-r.a j/q.a j*q.b)<μ*(r.b-r.a j/q.a j*q.b):=hd;have:=Rat.lt_of_mul_lt_mul_left dM (le_of_lt mp);show vl n r y<r.b;grind
 have qu:isUp q j:=by
  have:=G.ne;by_cases c:0<q.a j
  ·exact .inl c
  ·exact .inr ⟨by grind,G.eq⟩
 have ql:pG q j:=by
  have:=G.ne;by_cases c:q.a j<0
  ·exact .inl c
  ·exact .inr ⟨by grind,G.eq⟩
 have Yt:∀r∈R,isUp r j->Nm n q x j<=Nm n r x j:=by
  intro r hr hu;have h:=at' r hr;unfold Hd at h;rcases hu with hp|⟨hn,he⟩
  ·cases hk:r.kd with
   |eq=>rw[hk]at h;have:=(pN hj (by grind)).mp h;grind
   |le=>rw[hk]at h;exact(Dv hj hp).mp h
   |lt=>rw[hk]at h;exact le_of_lt ((Du hj hp).mp h)
  ·rw[he]at h;have:=(pN hj (by grind)).mp h;grind
 have X8:∀r∈R,pG r j->Nm n r x j<=Nm n q x j:=by
  intro r hr hu;have h:=at' r hr;unfold Hd at h;rcases hu with hp|⟨hn,he⟩
  ·cases hk:r.kd with
   |eq=>rw[hk]at h;have:=(pN hj (by grind)).mp h;grind
   |le=>rw[hk]at h;exact(lo_le hj hp).mp h
   |lt=>rw[hk]at h;exact le_of_lt ((Ea hj hp).mp h)
  ·rw[he]at h;have:=(pN hj (by grind)).mp h;grind
 have eb:vv (j8 l) (j8 g)=Nm n q x j:=by
  cases eg:g with
  |none=>exact absurd qu (hg.none eg q G.mem)
  |some gv=>
   obtain⟨sg,v⟩:=gv;obtain⟨⟨r,hr,iu,ev,_⟩,g2⟩:=hg.some sg v eg;have a1:=(g2 q G.mem qu).1;have a2:=Yt r hr iu;cases el:l with
   |none=>exact absurd ql (hl.none el q G.mem)
   |some lv=>
    obtain⟨sl,v'⟩:=lv;obtain⟨⟨r',cT,il,ev',_⟩,l2⟩:=hl.some sl v' el;have b1:=(l2 q G.mem ql).1;have b2:=X8 r' cT il;show(v'+v)/2=_;grind
 rw[eb];exact at'
abbrev Row:=Kn×List Int
def ent (r:Row) (c:Nat):Int:=r.2.getD c 0
def lowG (l:List Int):Nat:=l.foldl (λg x=>Nat.gcd g x.natAbs) 0
def lowered (l:List Int):List Int:=l.map λx=>x.fdiv (lowG l:Int)
def fF (one:List Int) (bZ:Int) (other:List Int) (more:Int):List Int:=zipWith (λa b=>bZ*a+more*b) one other
def mixed (one:List Int) (bZ:Int) (other:List Int) (more:Int):List Int:=lowered (fF one bZ other more)
def wo (equal:Row) (j:Nat) (r:Row):Row:=(r.1,mixed r.2 ((ent equal j).natAbs:Int) equal.2 (if 0<ent equal j then -ent r j else ent r j))
def joined (j:Nat) (up lo:Row):Row:=(if up.1=.lt\/lo.1=.lt then .lt else .le,mixed up.2 (-ent lo j) lo.2 (ent up j))
def drawn (aF:List Nat) (up lo:Row):Nat:=(aF.filter λp=>decide (ent up p≠0\/ent lo p≠0)).length
def ins (l:List Row) (r:Row):List Row:=if r∈l then l else l++[r]
def pairsOf (j:Nat) (aF:List Nat) (most:Nat) (rows:List Row):List Row:=
 (rows.filter λr=>decide (0<ent r j)).flatMap λup=>((rows.filter λr=>decide (ent r j<0)).filter λlo=>decide (drawn aF up lo<=most)).map λlo=>joined j up lo
def paired (j:Nat) (aF:List Nat) (most:Nat) (rows:List Row):List Row:=(rows.filter (λr=>decide (ent r j=0))++pairsOf j aF most rows).foldl ins []
def eK (j:Nat) (rows:List Row):Option Row:=rows.find? λr=>decide (r.1=.eq/\ent r j≠0)
def cZ (aF:List Nat) (j most:Nat) (rows:List Row):List Row:=match eK j rows with
 |none=>paired j aF (most+1) rows
 |some q=>(rows.filter λr=>decide (r≠q)).map (wo q j)
def iL (j most:Nat) (rows:List Row):Nat:=match eK j rows with
 |none=>most+1
 |some _=>most
def lY (aF:List Nat):Nat->Nat->Nat->List Row->List (List Row)
 |0,_,_,rows=>[rows]
 |m+1,j,most,rows=>rows::lY aF m (j+1) (iL j most rows) (cZ aF j most rows)
def aG (n:Nat) (r:Row):Rw:=⟨r.1,λc=>(ent r c:Rat),(ent r (n+1):Rat),λi=>(ent r (n+2+i):Rat)⟩
theorem Ct:∀(l:List Int) (g:Nat),(∀x∈l,(l.foldl (λg x=>Nat.gcd g x.natAbs) g)∣x.natAbs)/\(l.foldl (λg x=>Nat.gcd g x.natAbs) g)∣g
 |[],g=>⟨λx hx=>by simp at hx,Nat.dvd_refl g⟩
 |y::l,g=>by
  obtain⟨h1,h2⟩:=Ct l (Nat.gcd g y.natAbs);rw[foldl_cons];refine⟨λx hx=>?_,dvd_trans h2 (Nat.gcd_dvd_left _ _)⟩;rcases mem_cons.mp hx with e|h
  ·rw[e];exact dvd_trans h2 (Nat.gcd_dvd_right _ _)
  ·exact h1 x h
variable {l:List Int}
theorem mO{x:Int}(h:x∈l):(lowG l:Int)∣x:=Int.ofNat_dvd_left.mpr ((Ct l 0).1 x h)
theorem tP{x:Int}(h:x∈l)(hx:x≠0):0<lowG l:=by
 rcases Nat.eq_zero_or_pos (lowG l)with e|e
 ·have:=mO h;rw[e]at this;exact absurd (Int.zero_dvd.mp this) hx
 ·exact e
theorem Hq{f:Int->Int}(f0:f 0=0)(l:List Int)(c:Nat):(l.map f).getD c 0=f (l.getD c 0):=by
 rw[getD_eq_getElem?_getD,getD_eq_getElem?_getD,getElem?_map];cases l[c]? with
 |none=>exact f0.symm
 |some x=>rfl
variable {c:Nat}
theorem mem_getD(h:l.getD c 0≠0):l.getD c 0∈l:=by
 rw[getD_eq_getElem?_getD]at h ⊢;cases e:l[c]? with
 |none=>rw[e]at h;exact absurd rfl h
 |some x=>exact mem_of_getElem? e
theorem Bp(hp:0<lowG l)(c:Nat):((lowered l).getD c 0:Rat)=(lowG l:Rat)⁻¹*(l.getD c 0:Rat):=by
 have f0:(0:Int).fdiv (lowG l:Int)=0:=Int.zero_fdiv _;unfold lowered;rw[Hq f0];by_cases e:l.getD c 0=0
 ·rw[e,f0];grind
 ·obtain⟨q,hq⟩:=mO (mem_getD e);have g0:(lowG l:Int)≠0:=by omega
  have e2:(l.getD c 0).fdiv (lowG l:Int)=q:=by rw[hq,mul_comm,Int.mul_fdiv_cancel _ g0]
  rw[e2,hq,intCast_mul];have g1:((lowG l:Int):Rat)≠0:=λz=>g0 (Rat.intCast_eq_zero_iff.mp z);have g2:((lowG l:Int):Rat)=(lowG l:Rat):=rfl;rw[g2]at g1 ⊢;grind
theorem sV(l:List Int):(lowered l).length=l.length:=by unfold lowered;rw[length_map]
variable {other:List Int}
theorem mN{one:List Int}(h:one.length=other.length)(bZ more:Int)(c:Nat):(fF one bZ other more).getD c 0=bZ*one.getD c 0+more*other.getD c 0:=by
 unfold fF;rw[getD_eq_getElem?_getD,getD_eq_getElem?_getD,getD_eq_getElem?_getD,List.getElem?_zipWith];by_cases hc:c<one.length
 ·rw[getElem?_eq_getElem hc,getElem?_eq_getElem (h▸hc)];rfl
 ·rw[List.getElem?_eq_none (by omega),List.getElem?_eq_none (by omega)];show(0:Int)=bZ*0+more*0;omega
theorem Jw{one:List Int}(h:one.length=other.length)(bZ more:Int):(fF one bZ other more).length=one.length:=by
 unfold fF;rw[length_zipWith];omega
theorem Bq{g:Nat}(h:0<g):0<(g:Rat)⁻¹:=inv_pos.mpr (by
 have:((0:Nat):Rat)<(g:Rat):=Rat.natCast_lt_natCast.mpr h;exact this)
variable {p:Nat}
theorem xw{one:List Int}(h:one.length=other.length){bZ more:Int}(hp:bZ*one.getD p 0+more*other.getD p 0≠0):
  ∃μ:Rat,0<μ/\∀c,((mixed one bZ other more).getD c 0:Rat)=μ*((bZ:Rat)*(one.getD c 0:Rat)+(more:Rat)*(other.getD c 0:Rat)):=by
 have e:=mN h bZ more p;have hg:0<lowG (fF one bZ other more):=tP (mem_getD (by rw[e];exact hp)) (by rw[e];exact hp);refine⟨_,Bq hg,λc=>?_⟩;unfold mixed;rw[Bp hg,mN h,Rat.intCast_add,intCast_mul,intCast_mul]
theorem nv{one:List Int}(h:one.length=other.length)(bZ more:Int):(mixed one bZ other more).length=one.length:=by
 unfold mixed;rw[sV,Jw h]
variable {r:Row}
theorem Ni{l:List Row}{x:Row}:x∈ins l r↔x∈l\/x=r:=by
 unfold ins;split
 ·rename_i h;exact⟨.inl,λz=>z.elim id λe=>by rw[e];exact h⟩
 ·rw[mem_append,mem_singleton]
theorem uX{x:Row}:∀{M l:List Row},x∈M.foldl ins l↔x∈l\/x∈M
 |[],l=>by simp
 |r::M,l=>by
  rw[foldl_cons,uX,Ni,mem_cons];grind
variable {most:Nat} {rows:List Row}
theorem gW{aF:List Nat}{x:Row}:x∈paired j aF most rows↔(x∈rows/\ent x j=0)\/∃up∈rows,∃lo∈rows,0<ent up j/\ent lo j<0/\drawn aF up lo<=most/\x=joined j up lo:=by
 unfold paired pairsOf;rw[uX,mem_append,mem_filter,List.mem_flatMap];constructor
 ·rintro(h|h|⟨up,hu,hx⟩)
  ·simp at h
  ·exact .inl ⟨h.1,by simpa using h.2⟩
  ·obtain⟨A0,Qc⟩:=mem_filter.mp hu;obtain⟨lo,hl,e⟩:=mem_map.mp hx;obtain⟨Aa,Hg⟩:=mem_filter.mp hl;obtain⟨Xz,Xy⟩:=mem_filter.mp Aa;exact .inr ⟨up,A0,lo,Xz,by simpa using Qc,by simpa using Xy,by simpa using Hg,e.symm⟩
 ·rintro(⟨h1,h2⟩|⟨up,hu,lo,hl,pu,pl,hd,e⟩)
  ·exact .inr (.inl ⟨h1,by simpa using h2⟩)
  ·exact .inr (.inr ⟨up,mem_filter.mpr ⟨hu,by simpa using pu⟩,mem_map.mpr ⟨lo,mem_filter.mpr ⟨mem_filter.mpr ⟨hl,by simpa using pl⟩,by simpa using hd⟩,e.symm⟩⟩)
variable {a:Int}
theorem iO:(0:Rat)<(a:Rat)↔0<a:=by
 have:((0:Int):Rat)<(a:Rat)↔0<a:=Rat.intCast_lt_intCast;exact this
theorem qQ:(a:Rat)<0↔a<0:=by
 have:(a:Rat)<((0:Int):Rat)↔a<0:=Rat.intCast_lt_intCast;exact this
theorem cA:(a:Rat)=0↔a=0:=Rat.intCast_eq_zero_iff
def cE (n k:Nat) (J:Nat->Bool):List Nat:=((List.range k).filter λi=>J i).map λi=>n+2+i
theorem HP{up lo:Row}(hu:∀i,i<k->J i=true->0<=(aG n up).w i)(hl:∀i,i<k->J i=true->0<=(aG n lo).w i):
  drawn (cE n k J) up lo=cnt k (λi=>uo J (aG n up) i+uo J (aG n lo) i):=by
 unfold drawn cE;rw[List.filter_map,length_map,List.filter_filter];induction k with
 |zero=>rfl
 |succ k ih=>
  rw[List.range_succ,List.filter_append,length_append,ih (λi hi=>hu i (by omega)) (λi hi=>hl i (by omega))];show _=cnt k _+_;congr 1
  by_cases hj:J k=true
  ·have a:=hu k (by omega) hj;have b:=hl k (by omega) hj;have e0:uo J (aG n up) k+uo J (aG n lo) k=(ent up (n+2+k):Rat)+(ent lo (n+2+k):Rat):=by
    unfold uo;rw[if_pos hj,if_pos hj];rfl
   have a':0<=(ent up (n+2+k):Rat):=a;have b':0<=(ent lo (n+2+k):Rat):=b;by_cases e:ent up (n+2+k)≠0\/ent lo (n+2+k)≠0
   ·rw[if_neg,List.filter_cons_of_pos (by simp[hj];exact e)]
    ·simp
    ·show ¬uo J (aG n up) k+uo J (aG n lo) k=0;rw[e0];intro z;have z1:(ent up (n+2+k):Rat)=0:=by grind
     have z2:(ent lo (n+2+k):Rat)=0:=by grind
     exact e.elim (λh=>h (cA.mp z1)) (λh=>h (cA.mp z2))
   ·have h1:ent up (n+2+k)=0:=by
     apply Classical.byContradiction;intro z;exact e (.inl z)
    have h2:ent lo (n+2+k)=0:=by
     apply Classical.byContradiction;intro z;exact e (.inr z)
    rw[if_pos,List.filter_cons_of_neg (by simp[h1,h2])]
    ·simp
    ·show uo J (aG n up) k+uo J (aG n lo) k=0;rw[e0,h1,h2];grind
  ·rw[if_pos,List.filter_cons_of_neg (by simp[hj])]
   ·simp
   ·show uo J (aG n up) k+uo J (aG n lo) k=0;unfold uo;rw[if_neg hj,if_neg hj];grind
structure Rs (n k:Nat) (rows:List Row):Prop where
 len:∀r∈rows,r.2.length=n+2+k
 DX:∀r∈rows,r.1=.eq->∃p,ent r p≠0/\∀s∈rows,s.1=.eq->s≠r->ent s p=0
theorem GP{up lo:Row}(hl:up.2.length=lo.2.length)(pu:0<ent up j)(pl:ent lo j<0)(hp: -ent lo j*ent up p+ent up j*ent lo p≠0):Jd (aG n up) (aG n lo) (aG n (joined j up lo)) j:=by
 refine⟨rfl,?_⟩;obtain⟨μ,mp,h⟩:=xw (bZ:=-ent lo j) (more:=ent up j) hl (p:=p) hp;have h':∀c,((ent (joined j up lo) c:Int):Rat)=μ*(-(ent lo j:Rat)*(ent up c:Rat)+(ent up j:Rat)*(ent lo c:Rat)):=λc=>by
  have:=h c;rw[intCast_neg]at this;exact this
 exact⟨μ,mp,λc=>h' c,h' _,λi=>h' _⟩
variable {q:Row}
theorem Kv(hl:r.2.length=q.2.length)(q0:ent q j≠0)(hp:((ent q j).natAbs:Int)*ent r p+(if 0<ent q j then -ent r j else ent r j)*ent q p≠0):Wo (aG n q) (aG n r) (aG n (wo q j r)) j:=by
 refine⟨rfl,?_⟩;obtain⟨μ,mp,h⟩:=xw (bZ:=((ent q j).natAbs:Int)) (more:=if 0<ent q j then -ent r j else ent r j) hl (p:=p) hp;have qn:((ent q j:Int):Rat)≠0:=λz=>q0 (cA.mp z);have ab:(((ent q j).natAbs:Int):Rat)=if 0<ent q j then(ent q j:Rat)else -(ent q j:Rat):=by
  by_cases c:0<ent q j
  ·rw[if_pos c,show((ent q j).natAbs:Int)=ent q j by omega]
  ·rw[if_neg c,show((ent q j).natAbs:Int)=-ent q j by omega,intCast_neg]
 have ap:0<(((ent q j).natAbs:Int):Rat):=iO.mpr (by omega);have h':∀c,((ent (wo q j r) c:Int):Rat)=μ*(((ent q j).natAbs:Int):Rat)*((ent r c:Rat)-(ent r j:Rat)/(ent q j:Rat)*(ent q c:Rat)):=λc=>by
  have e:=h c;have e2:((ent (wo q j r) c:Int):Rat)=_:=e;rw[e2,ab];show μ*((if 0<ent q j then(ent q j:Rat)else -(ent q j:Rat))*(ent r c:Rat)+((if 0<ent q j then -ent r j else ent r j:Int):Rat)*(ent q c:Rat))=_;by_cases c0:0<ent q j
  ·rw[if_pos c0,if_pos c0,intCast_neg];grind
  ·rw[if_neg c0,if_neg c0];grind
 exact⟨μ*(((ent q j).natAbs:Int):Rat),bL mp ap,λc=>h' c,h' _,λi=>h' _⟩
variable {St:Nat->Bool} in
theorem zD(hR:Rs n k rows)(S:Sg n k j J St E B β (rows.map (aG n)))(hn:eK j rows=none):
  Pairs k J j (E.length+2) (rows.map (aG n)) ((paired j (cE n k J) (E.length+2) rows).map (aG n)):=by
 have mem:∀{r:Row},r∈rows->aG n r∈rows.map (aG n):=λh=>mem_map.mpr ⟨_,h,rfl⟩;have pC:∀r∈rows,r.1=.eq->ent r j=0:=λr hr he=>by
  have:=List.find?_eq_none.mp hn r hr;apply Classical.byContradiction
  intro z;exact this (by simp[he,z])
 have kq:∀{r:Row},r∈rows->ent r j≠0->(aG n r).kd≠.eq:=λhr h e=>h (pC _ hr e);have jd:∀{up lo:Row},up∈rows->lo∈rows->0<ent up j->ent lo j<0->Jd (aG n up) (aG n lo) (aG n (joined j up lo)) j:=by
  intro up lo hu hl pu pl;obtain⟨i,hi,hj,hp⟩:=S.pos (aG n up) (mem hu) (kq hu (by omega));have b:=S.nn (aG n lo) (mem hl) (kq hl (by omega)) i hi hj;refine GP (by rw[hR.len up hu,hR.len lo hl]) pu pl (p:=n+2+i) ?_;have i4:0<ent up (n+2+i):=iO.mp hp;have Qv:0<=ent lo (n+2+i):=by
   have b':(0:Rat)<=(ent lo (n+2+i):Rat):=b;have:((0:Int):Rat)<=(ent lo (n+2+i):Rat):=b';exact Rat.intCast_le_intCast.mp this
  have h1:=Int.mul_pos (show 0 < -ent lo j by omega) i4;have h2:=Int.mul_nonneg (Int.le_of_lt pu) Qv;omega
 refine⟨λr hr he=>?_,λr hr=>?_,λr hr h0=>?_,λup hu lo hl pu pl hc=>?_⟩
 ·obtain⟨r,cT,rfl⟩:=mem_map.mp hr;exact cA.mpr (pC r cT he)
 ·obtain⟨r,cT,rfl⟩:=mem_map.mp hr;rcases gW.mp cT with⟨h1,h2⟩|⟨up,hu,lo,hl,pu,pl,_,rfl⟩
  ·exact .inl ⟨mem h1,cA.mpr h2⟩
  ·exact .inr ⟨aG n up,mem hu,aG n lo,mem hl,iO.mpr pu,qQ.mpr pl,jd hu hl pu pl⟩
 ·obtain⟨r,cT,rfl⟩:=mem_map.mp hr;exact⟨_,mem_map.mpr ⟨r,gW.mpr (.inl ⟨cT,cA.mp h0⟩),rfl⟩,rfl⟩
 ·obtain⟨up,Qd,rfl⟩:=mem_map.mp hu;obtain⟨lo,lA,rfl⟩:=mem_map.mp hl;clear hu hl;have hu:=Qd;have hl:=lA;have Tz:0<ent up j:=iO.mp pu;have TB:ent lo j<0:=qQ.mp pl;refine⟨_,mem_map.mpr ⟨joined j up lo,gW.mpr (.inr ⟨up,hu,lo,hl,Tz,TB,?_,rfl⟩),rfl⟩,jd hu hl Tz TB⟩;rw[HP (S.nn _ (mem hu) (kq hu (by omega))) (S.nn _ (mem hl) (kq hl (by omega)))];exact hc
theorem FP(hR:Rs n k rows)(hn:eK j rows=none):Rs n k (paired j (cE n k J) most rows):=by
 have U3:∀{r:Row},r∈paired j (cE n k J) most rows->r.1=.eq->r∈rows:=λhr he=>by
  rcases gW.mp hr with⟨h1,h2⟩|⟨up,hu,lo,hl,pu,pl,_,e⟩
  ·exact h1
  ·rw[e]at he;unfold joined at he;dsimp only at he;split at he<;>cases he
 refine⟨λr hr=>?_,λr hr he=>?_⟩
 ·rcases gW.mp hr with⟨h1,h2⟩|⟨up,hu,lo,hl,pu,pl,_,e⟩
  ·exact hR.len r h1
  ·rw[e];show(mixed up.2 _ lo.2 _).length=_;rw[nv (by rw[hR.len up hu,hR.len lo hl]),hR.len up hu]
 ·obtain⟨p,h1,h2⟩:=hR.DX r (U3 hr he) he;exact⟨p,h1,λs hs Le cx=>h2 s (U3 hs Le) Le cx⟩
variable {St:Nat->Bool} in
theorem Dt(hR:Rs n k rows)(S:Sg n k j J St E B β (rows.map (aG n)))(hq:q∈rows)(qe:q.1=.eq)(q0:ent q j≠0)(hr:r∈rows)(cx:r≠q):Wo (aG n q) (aG n r) (aG n (wo q j r)) j:=by
 have mem:∀{r:Row},r∈rows->aG n r∈rows.map (aG n):=λh=>mem_map.mpr ⟨_,h,rfl⟩;have hl:r.2.length=q.2.length:=by rw[hR.len r hr,hR.len q hq]
 by_cases he:r.1=.eq
 ·obtain⟨p,h1,h2⟩:=hR.DX r hr he;refine Kv hl q0 (p:=p) ?_;rw[h2 q hq qe (Ne.symm cx)];have:((ent q j).natAbs:Int)≠0:=by omega
  have:=mul_ne_zero this h1;omega
 ·obtain⟨i,hi,hj,hp⟩:=S.pos (aG n r) (mem hr) he;have hz:=S.xN (aG n q) (mem hq) qe i hi hj;refine Kv hl q0 (p:=n+2+i) ?_;have Q7:ent q (n+2+i)=0:=cA.mp hz;have i4:0<ent r (n+2+i):=iO.mp hp;rw[Q7];have:((ent q j).natAbs:Int)≠0:=by omega
  have:=mul_ne_zero this (show ent r (n+2+i)≠0 by omega);omega
variable {St:Nat->Bool} in
theorem Ar(hR:Rs n k rows)(S:Sg n k j J St E B β (rows.map (aG n)))(hq:eK j rows=some q):
  EY j (aG n q) (rows.map (aG n)) (((rows.filter λr=>decide (r≠q)).map (wo q j)).map (aG n)):=by
 have mem:∀{r:Row},r∈rows->aG n r∈rows.map (aG n):=λh=>mem_map.mpr ⟨_,h,rfl⟩;have hm:=mem_of_find?_eq_some hq;have hp:=find?_some hq;have i4:q.1=.eq/\ent q j≠0:=by simpa using hp
 refine⟨mem hm,i4.1,λz=>i4.2 (cA.mp z),λr' cT=>?_,λr hr cx=>?_⟩
 ·obtain⟨s,hs,rfl⟩:=mem_map.mp cT;obtain⟨r,hr,rfl⟩:=mem_map.mp hs;obtain⟨h1,h2⟩:=mem_filter.mp hr;exact⟨aG n r,mem h1,Dt hR S hm i4.1 i4.2 h1 (by simpa using h2)⟩
 ·obtain⟨r,A4,rfl⟩:=mem_map.mp hr;clear hr;have hr:=A4;have Eh:r≠q:=λe=>cx (by rw[e]);exact⟨_,mem_map.mpr ⟨_,mem_map.mpr ⟨r,mem_filter.mpr ⟨hr,by simpa using Eh⟩,rfl⟩,rfl⟩,Dt hR S hm i4.1 i4.2 hr Eh⟩
variable {St:Nat->Bool} in
theorem IU(hR:Rs n k rows)(S:Sg n k j J St E B β (rows.map (aG n)))(hq:eK j rows=some q):Rs n k ((rows.filter λr=>decide (r≠q)).map (wo q j)):=by
 have hm:=mem_of_find?_eq_some hq;have hp:=find?_some hq;have i4:q.1=.eq/\ent q j≠0:=by simpa using hp
 have inv:∀{s:Row},s∈(rows.filter λr=>decide (r≠q)).map (wo q j)->∃r∈rows,r≠q/\s=wo q j r:=λhs=>by
  obtain⟨r,hr,rfl⟩:=mem_map.mp hs;obtain⟨h1,h2⟩:=mem_filter.mp hr;exact⟨r,h1,by simpa using h2,rfl⟩
 refine⟨λs hs=>?_,λs hs he=>?_⟩
 ·obtain⟨r,hr,cx,rfl⟩:=inv hs;show(mixed r.2 _ q.2 _).length=_;rw[nv (by rw[hR.len r hr,hR.len q hm]),hR.len r hr]
 ·obtain⟨r,hr,cx,rfl⟩:=inv hs;obtain⟨p,h1,h2⟩:=hR.DX r hr he;have zq:=h2 q hm i4.1 (Ne.symm cx)

  have at':∀{t:Row},t∈rows->t≠q->∃μ:Rat,0<μ/\((ent (wo q j t) p:Int):Rat)=μ*(ent t p:Rat):=λht Xf=>by
   obtain⟨μ,mp,ea,_⟩:=(Dt (n:=n) hR S hm i4.1 i4.2 ht Xf).ex;refine⟨μ,mp,?_⟩;have:=ea p;show(aG n (wo q j _)).a p=_;rw[this];show μ*((ent _ p:Rat)-_*(ent q p:Rat))=_;rw[zq];grind
  refine⟨p,?_,λs' sW Lo Eh=>?_⟩
  ·obtain⟨μ,mp,e⟩:=at' hr cx;intro z;rw[z]at e;have e':(0:Rat)=μ*(ent r p:Rat):=e;rcases mul_eq_zero.mp e'.symm with h|h
   ·grind
   ·exact h1 (cA.mp h)
  ·obtain⟨r',cT,W8,rfl⟩:=inv sW;have Qh:r'≠r:=λe=>Eh (by rw[e]);obtain⟨μ,mp,e⟩:=at' cT W8;rw[h2 r' cT Lo Qh]at e;exact cA.mp (by rw[e];grind)
def sx (r:Row):Nat->List Rat->Rat->Rat
 |_,[],acc=>acc
 |c,x::xs,acc=>sx r (c+1) xs (if ent r c≠0 then acc-(ent r c:Rat)*x else acc)
def ma (r:Row) (x:List Rat):Rat:=sx r 0 x (ent r x.length:Rat)
abbrev fQ:=Bool×Rat×List Rat
def mX (j:Nat) (way:Int) (r:Row):Prop:=0<way*ent r j\/(way*ent r j<0/\r.1=.eq)
instance (j:Nat) (way:Int) (r:Row):Decidable (mX j way r):=inferInstanceAs (Decidable (_\/_))
def ef (j:Nat) (way:Int) (x:List Rat) (r:Row):Rat:=ma r x/((way*ent r j:Int):Rat)
def o8 (j:Nat) (way:Int) (x:List Rat) (r:Row):List Rat:=(r.2.drop (x.length+1)).map fun(w:Int)=>(w:Rat)/((way*ent r j:Int):Rat)
def better (b:Option fQ) (kd:Bool) (v:Rat):Bool:=match b with
 |none=>true
 |some b=>decide (v<b.2.1) || (decide (v=b.2.1)&&kd)
def jQ (j:Nat) (way:Int) (x:List Rat) (b:Option fQ) (r:Row):Option fQ:=
 if mX j way r then(if better b (decide (r.1=.lt)) (ef j way x r)=true then some (decide (r.1=.lt),ef j way x r,o8 j way x r)else b)else b
def ip (rows:List Row) (j:Nat) (x:List Rat) (way:Int):Option fQ:=rows.foldl (jQ j way x) none
def Jq (b:Option fQ):Option Rat:=b.map (·.2.1)
def Dy (b:Option fQ):Option Rat:=b.map λb=>0-b.2.1
def mJ (qo:List (List Row)):Nat->List Rat->List Rat
 |0,x=>x
 |m+1,x=>mJ qo m (x.set m (vv (Dy (ip (qo.getD m []) m x (-1))) (Jq (ip (qo.getD m []) m x 1))))
def ox (qo:List (List Row)) (n:Nat) (t:Rat):List Rat:=(mJ qo n (List.replicate n 0++[t])).take n
def endOf (n:Nat) (rows:List Row) (way:Int):Option fQ:=ip rows n (List.replicate (n+1) 0) way
def cX:Kn->Rat->Bool
 | .eq,b=>decide (b≠0)
 | .le,b=>decide (b<0)
 | .lt,b=>decide (b<0) || decide (b=0)
def gX (n:Nat) (rows:List Row):Option (List Rat):=(rows.find? λr=>decide (ent r n=0)&&cX r.1 (ent r (n+1):Rat)).map λr=>
 (r.2.drop (n+2)).map fun(w:Int)=>(((if r.1=.eq/\0<ent r (n+1)then -1 else 1:Int)*w:Int):Rat)
def jJ (n:Nat) (rows:List Row):Option (List Rat):=match endOf n rows 1,endOf n rows (-1)with
 |some t,some b=>if cX (if t.1=true\/b.1=true then .lt else .le) (t.2.1+b.2.1)=true then some (zipWith (λx y=>x+y) t.2.2 b.2.2)else none
 |_,_=>none
def never (n:Nat) (rows:List Row):Option (List Rat):=match gX n rows with
 |some w=>some w
 |none=>jJ n rows
theorem zS(r:Row):∀(xs:List Rat) (c:Nat) (acc:Rat),sx r c xs acc=acc-sm xs.length (λi=>(ent r (c+i):Rat)*xs.getD i 0)
 |[],c,acc=>by show acc=acc-0;grind
 |x::xs,c,acc=>by
  show sx r (c+1) xs _=_;rw[zS r xs (c+1)];have e:sm (xs.length+1) (λi=>(ent r (c+i):Rat)*(x::xs).getD i 0)=(ent r c:Rat)*x+sm xs.length (λi=>(ent r (c+1+i):Rat)*xs.getD i 0):=by
   have:∀(m:Nat) (f:Nat->Rat),sm (m+1) f=f 0+sm m (λi=>f (i+1)):=by
    intro m f;induction m with
    |zero=>show(0:Rat)+f 0=f 0+0;grind
    |succ m ih=>show sm (m+1) f+f (m+1)=f 0+(sm m (λi=>f (i+1))+f (m+1));rw[ih];grind
   rw[this];congr 1
   exact aE λi _=>by
    show(ent r (c+(i+1)):Rat)*xs.getD i 0=_;rw[show c+(i+1)=c+1+i by omega]
  show _=acc-sm (xs.length+1) _;rw[e];by_cases h:ent r c=0
  ·rw[if_neg (λz=>z h),h];grind
  ·rw[if_pos h];grind
abbrev xf (x:List Rat):Nat->Rat:=λc=>x.getD c 0
variable {x:List Rat}
theorem zR(hx:x.length=n+1):ma r x=(aG n r).b-vl n (aG n r) (xf x):=by
 unfold ma;rw[zS,hx];show _=(ent r (n+1):Rat)-sm (n+1) (λc=>(ent r c:Rat)*x.getD c 0);congr 1
 exact aE λi _=>by rw[zero_add]
theorem uQ(hx:x.length=n+1)(hj:j<=n)(h0:x.getD j 0=0):ma r x=(aG n r).b-rest n (aG n r) (xf x) j:=by
 rw[zR hx,oR hj];show _-(_+_*x.getD j 0)=_;rw[h0];grind
structure TS (j:Nat) (way:Int) (x:List Rat) (rows:List Row) (b:Option fQ):Prop where
 none:b=none->∀r∈rows,¬mX j way r
 some:∀t,b=some t->(∃r∈rows,mX j way r/\t.1=decide (r.1=.lt)/\t.2.1=ef j way x r/\t.2.2=o8 j way x r)/\∀r∈rows,mX j way r->t.2.1<=ef j way x r/\(r.1=.lt->ef j way x r=t.2.1->t.1=true)
variable {way:Int}
theorem TS.step{b:Option fQ}(h:TS j way x rows b)(r:Row):TS j way x (rows++[r]) (jQ j way x b r):=by
 unfold jQ;by_cases c:mX j way r
 ·rw[if_pos c];by_cases d:better b (decide (r.1=.lt)) (ef j way x r)=true
  ·rw[if_pos d];refine⟨(λe=>by cases e),λt e=>?_⟩;cases e;refine⟨⟨r,by simp,c,rfl,rfl,rfl⟩,λs hs cs=>?_⟩;rcases mem_append.mp hs with hs|hs
   ·cases hb:b with
    |none=>exact absurd cs (h.none hb s hs)
    |some t=>
     obtain⟨h1,h2⟩:=(h.some t hb).2 s hs cs;rw[hb]at d;have d':(decide (ef j way x r<t.2.1) || (decide (ef j way x r=t.2.1)&&decide (r.1=.lt)))=true:=d;rw[or_eq_true,and_eq_true,decide_eq_true_iff,decide_eq_true_iff]at d';rcases d' with d'|⟨d',d2⟩
     ·exact⟨by show ef j way x r<=_;grind,λ_ e=>by have e':ef j way x s=ef j way x r:=e;grind⟩
     ·exact⟨by show ef j way x r<=_;grind,λ_ _=>d2⟩
   ·rw[mem_singleton.mp hs];exact⟨by show ef j way x r<=_;grind,λe _=>decide_eq_true e⟩
  ·rw[if_neg d];cases hb:b with
   |none=>rw[hb]at d;exact absurd rfl d
   |some t=>
    refine⟨(λe=>by cases e),λt' e=>?_⟩;cases e;obtain⟨⟨r0,Qj,h1⟩,h2⟩:=h.some t hb;refine⟨⟨r0,mem_append.mpr (.inl Qj),h1⟩,λs hs cs=>?_⟩;rcases mem_append.mp hs with hs|hs
    ·exact h2 s hs cs
    ·rw[mem_singleton.mp hs];rw[hb]at d;have d':¬(decide (ef j way x r<t.2.1) || (decide (ef j way x r=t.2.1)&&decide (r.1=.lt)))=true:=d;rw[or_eq_true,and_eq_true,decide_eq_true_iff,decide_eq_true_iff,decide_eq_true_iff]at d';have a:¬ef j way x r<t.2.1:=λz=>d' (.inl z);exact⟨by grind,λe1 e2=>absurd (.inr ⟨e2,e1⟩) d'⟩
 ·rw[if_neg c];refine⟨λe s hs=>?_,λt e=>?_⟩
  ·rcases mem_append.mp hs with hs|hs
   ·exact h.none e s hs
   ·rw[mem_singleton.mp hs];exact c
  ·obtain⟨⟨r0,Qj,h1⟩,h2⟩:=h.some t e;refine⟨⟨r0,mem_append.mpr (.inl Qj),h1⟩,λs hs cs=>?_⟩;rcases mem_append.mp hs with hs|hs
   ·exact h2 s hs cs
   ·rw[mem_singleton.mp hs]at cs;exact absurd cs c
theorem TS.all{j:Nat}{way:Int}{x:List Rat}:∀(rows done:List Row) (b:Option fQ),TS j way x done b->TS j way x (done++rows) (rows.foldl (jQ j way x) b)
 |[],done,b,h=>by rw[append_nil];exact h
 |r::rows,done,b,h=>by
  have:=TS.all rows (done++[r]) _ (h.step r);rw[append_assoc]at this;exact this
theorem mD(rows:List Row)(j:Nat)(x:List Rat)(way:Int):TS j way x rows (ip rows j x way):=by
 have:=TS.all (j:=j) (way:=way) (x:=x) rows [] none ⟨λ_ r hr=>by simp at hr,λt e=>by cases e⟩;exact this
theorem wD:mX j 1 r↔isUp (aG n r) j:=by
 unfold mX isUp;rw[one_mul];show _↔0<(ent r j:Rat)\/((ent r j:Rat)<0/\r.1=.eq);rw[iO,qQ]
theorem wF:mX j (-1) r↔pG (aG n r) j:=by
 unfold mX pG;rw[show(-1:Int)*ent r j=-ent r j by omega];show _↔(ent r j:Rat)<0\/(0<(ent r j:Rat)/\r.1=.eq);rw[iO,qQ];constructor
 ·rintro(h|⟨h,e⟩)
  ·exact .inl (by omega)
  ·exact .inr ⟨by omega,e⟩
 ·rintro(h|⟨h,e⟩)
  ·exact .inl (by omega)
  ·exact .inr ⟨by omega,e⟩
theorem Cj(hx:x.length=n+1)(hj:j<=n)(h0:x.getD j 0=0):ef j 1 x r=Nm n (aG n r) (xf x) j:=by
 unfold ef Nm;rw[uQ hx hj h0,one_mul];rfl
theorem Ck(hx:x.length=n+1)(hj:j<=n)(h0:x.getD j 0=0):ef j (-1) x r=- Nm n (aG n r) (xf x) j:=by
 unfold ef Nm;rw[uQ hx hj h0,show(-1:Int)*ent r j=-ent r j by omega,intCast_neg];show _=- (_/(ent r j:Rat));grind
def oT (b:Option fQ):Option (Bool×Rat):=b.map λb=>(b.1,b.2.1)
def pP (b:Option fQ):Option (Bool×Rat):=b.map λb=>(b.1,0-b.2.1)
theorem zH(b:Option fQ):j8 (oT b)=Jq b:=by cases b<;>rfl
theorem zI(b:Option fQ):j8 (pP b)=Dy b:=by cases b<;>rfl
theorem qj(hx:x.length=n+1)(hj:j<=n)(h0:x.getD j 0=0):Top n (rows.map (aG n)) (xf x) j (oT (ip rows j x 1)):=by
 have T:=mD rows j x 1;refine⟨λe r hr=>?_,λs v e=>?_⟩
 ·obtain⟨r,cT,rfl⟩:=mem_map.mp hr;rw[<- wD];refine T.none ?_ r cT;cases h:ip rows j x 1 with
  |none=>rfl
  |some b=>rw[h]at e;cases e
 ·cases h:ip rows j x 1 with
  |none=>rw[h]at e;cases e
  |some t=>
   rw[h]at e;have e':(t.1,t.2.1)=(s,v):=Option.some.inj e;injection e' with e1 e2;obtain⟨⟨r,hr,c,k1,k2,_⟩,h2⟩:=T.some t h;refine⟨⟨aG n r,mem_map.mpr ⟨r,hr,rfl⟩,wD.mp c,?_,λz=>?_⟩,λr' cT hu=>?_⟩
   ·rw[<- e2,k2,Cj hx hj h0]
   ·rw[<- e1,k1]at z;exact of_decide_eq_true z
   ·obtain⟨r2,A4,rfl⟩:=mem_map.mp cT;obtain⟨a,b⟩:=h2 r2 A4 (wD.mpr hu);rw[Cj hx hj h0]at a b;rw[<- e1,<- e2];exact⟨a,b⟩
theorem qk(hx:x.length=n+1)(hj:j<=n)(h0:x.getD j 0=0):S1 n (rows.map (aG n)) (xf x) j (pP (ip rows j x (-1))):=by
 have T:=mD rows j x (-1);refine⟨λe r hr=>?_,λs v e=>?_⟩
 ·obtain⟨r,cT,rfl⟩:=mem_map.mp hr;rw[<- wF];refine T.none ?_ r cT;cases h:ip rows j x (-1)with
  |none=>rfl
  |some b=>rw[h]at e;cases e
 ·cases h:ip rows j x (-1)with
  |none=>rw[h]at e;cases e
  |some t=>
   rw[h]at e;have e':(t.1,0-t.2.1)=(s,v):=Option.some.inj e;injection e' with e1 e2;obtain⟨⟨r,hr,c,k1,k2,_⟩,h2⟩:=T.some t h;refine⟨⟨aG n r,mem_map.mpr ⟨r,hr,rfl⟩,wF.mp c,?_,λz=>?_⟩,λr' cT hu=>?_⟩
   ·rw[<- e2,k2,Ck hx hj h0];grind
   ·rw[<- e1,k1]at z;exact of_decide_eq_true z
   ·obtain⟨r2,A4,rfl⟩:=mem_map.mp cT;obtain⟨a,b⟩:=h2 r2 A4 (wF.mpr hu);rw[Ck hx hj h0]at a b;rw[<- e1,<- e2];exact⟨by grind,λp q=>b p (by grind)⟩
def choice (rows:List Row) (j:Nat) (x:List Rat):Rat:=vv (Dy (ip rows j x (-1))) (Jq (ip rows j x 1))
def Kp (n j:Nat) (rows Sl:List Row):Prop:=∀x:List Rat,x.length=n+1->x.getD j 0=0->(∀r∈Sl,Hd n (xf x) (aG n r))->∀r∈rows,Hd n (put (xf x) j (choice rows j x)) (aG n r)
variable {St:Nat->Bool} in
theorem Cn(hR:Rs n k rows)(S:Sg n k j J St E B β (rows.map (aG n)))(hj:j<n)(hm:most=E.length+1):
  Rs n k (cZ (cE n k J) j most rows)/\(∃E' B' F7,Sg n k (j+1) J St E' B' F7 ((cZ (cE n k J) j most rows).map (aG n))/\iL j most rows=E'.length+1)/\Kp n j rows (cZ (cE n k J) j most rows):=by
 unfold cZ iL;cases hq:eK j rows with
 |none=>
  have P:=zD hR S hq;have S':=S.pairs hj P;rw[show most+1=E.length+2 by omega];refine⟨FP hR hq,⟨_,_,_,S',by rw[length_cons]⟩,λx hx h0 hh r hr=>?_⟩;have:=Hw (x:=xf x) S' S hj P (λr hr=>by obtain⟨r,cT,rfl⟩:=mem_map.mp hr;exact hh r cT) (qj hx (by omega) h0) (qk hx (by omega) h0) (aG n r) (mem_map.mpr ⟨r,hr,rfl⟩);rw[zH,zI]at this;exact this
 |some q=>
  have G:=Ar hR S hq;have S':=S.SW hj G;refine⟨IU hR S hq,⟨_,_,_,S',hm⟩,λx hx h0 hh r hr=>?_⟩;have:=Hx (x:=xf x) (Nat.le_of_lt hj) G (λr hr=>by obtain⟨r,cT,rfl⟩:=mem_map.mp hr;exact hh r cT) (λr hr=>S'.zero r hr j (by omega)) (qj hx (by omega) h0) (qk hx (by omega) h0) (aG n r) (mem_map.mpr ⟨r,hr,rfl⟩);rw[zH,zI]at this;exact this
structure nH (n k:Nat) (P:Nat->Nat->Rat) (Bd:Nat->Rat) (p:Nat->Rat) (r:Rw):Prop where
 a:∀c,c<n->r.a c=sm k (λi=>r.w i*P i c)-r.a n*p c
 b:r.b=sm k λi=>r.w i*Bd i
variable {P:Nat->Nat->Rat} {Bd p:Nat->Rat}
theorem nH.jd{up lo r:Rw}(hu:nH n k P Bd p up)(hl:nH n k P Bd p lo)(h:Jd up lo r j):nH n k P Bd p r:=by
 obtain⟨μ,mp,ea,eb,ew⟩:=h.ex;have key:∀g:Nat->Rat,sm k (λi=>r.w i*g i)=μ*(-lo.a j*sm k (λi=>up.w i*g i)+up.a j*sm k (λi=>lo.w i*g i)):=λg=>by
  rw[<- bw,<- bw,<- dQ,<- bw];exact aE λi _=>by rw[ew i];grind
 refine⟨λc hc=>?_,?_⟩
 ·rw[key,ea c,ea n,hu.a c hc,hl.a c hc];grind
 ·rw[key,eb,hu.b,hl.b]
theorem nH.wo{q r r':Rw}(hq:nH n k P Bd p q)(hr:nH n k P Bd p r)(h:Wo q r r' j):nH n k P Bd p r':=by
 obtain⟨μ,mp,ea,eb,ew⟩:=h.ex;have key:∀g:Nat->Rat,sm k (λi=>r'.w i*g i)=μ*(sm k (λi=>r.w i*g i)+(-(r.a j/q.a j))*sm k (λi=>q.w i*g i)):=λg=>by
  rw[<- bw,<- dQ,<- bw];exact aE λi _=>by rw[ew i];grind
 refine⟨λc hc=>?_,?_⟩
 ·rw[key,ea c,ea n];generalize r.a j/q.a j=ρ;rw[hr.a c hc,hq.a c hc];grind
 ·rw[key,eb];generalize r.a j/q.a j=ρ;rw[hr.b,hq.b];grind
variable {St:Nat->Bool} in
theorem JB(hR:Rs n k rows)(S:Sg n k j J St E B β (rows.map (aG n)))(hm:most=E.length+1)(h:∀r∈rows,nH n k P Bd p (aG n r)):∀r∈cZ (cE n k J) j most rows,nH n k P Bd p (aG n r):=by
 unfold cZ;cases hq:eK j rows with
 |none=>
  have Pp:=zD hR S hq;rw[show most+1=E.length+2 by omega];intro r hr;rcases Pp.gg (aG n r) (mem_map.mpr ⟨r,hr,rfl⟩)with⟨h1,_⟩|⟨up,hu,lo,hl,_,_,hd⟩
  ·obtain⟨s,hs,e⟩:=mem_map.mp h1;rw[<- e];exact h s hs
  ·obtain⟨up,Qd,rfl⟩:=mem_map.mp hu;obtain⟨lo,lA,rfl⟩:=mem_map.mp hl;exact(h up Qd).jd (h lo lA) hd
 |some q=>
  have G:=Ar hR S hq;intro r hr;obtain⟨s,hs,W⟩:=G.gg (aG n r) (mem_map.mpr ⟨r,hr,rfl⟩);obtain⟨s,sW,rfl⟩:=mem_map.mp hs;exact nH.wo (h q (mem_of_find?_eq_some hq)) (h s sW) W
variable {St:Nat->Bool} in
structure Run (n k:Nat) (J St:Nat->Bool) (P:Nat->Nat->Rat) (Bd p:Nat->Rat) (j:Nat) (Ls:List (List Row)) (rows:List Row):Prop where
 len:Ls.length=n-j+1
 head:Ls.getD 0 []=rows
 ext:∀i,j+i<n->Kp n (j+i) (Ls.getD i []) (Ls.getD (i+1) [])
 last:∃E B β,Sg n k n J St E B β ((Ls.getD (n-j) []).map (aG n))
 rs:Rs n k (Ls.getD (n-j) [])
 TY:∀r∈Ls.getD (n-j) [],nH n k P Bd p (aG n r)
variable {St:Nat->Bool} in
theorem FN{P:Nat->Nat->Rat}{Bd p:Nat->Rat}:∀(m j most:Nat) (rows:List Row) (E:List Nat) (B:Nat->Nat->Rat) (β:Nat->Rat),j+m=n->most=E.length+1->Rs n k rows->Sg n k j J St E B β (rows.map (aG n))->(∀r∈rows,nH n k P Bd p (aG n r))->
  Run n k J St P Bd p j (lY (cE n k J) m j most rows) rows
 |0,j,most,rows,E,B,β,hj,hm,hR,S,hL=>by
  have e:n-j=0:=by omega
  have e2:j=n:=by omega
  subst e2;refine⟨by rw[e];rfl,rfl,λi hi=>by omega,?_,?_,?_⟩
  ·rw[e];exact⟨E,B,β,S⟩
  ·rw[e];exact hR
  ·rw[e];exact hL
 |m+1,j,most,rows,E,B,β,hj,hm,hR,S,hL=>by
  obtain⟨Y0,⟨E',B',F7,S',CD⟩,hx⟩:=Cn hR S (by omega) hm;have Yc:=JB hR S hm hL;have I:=FN m (j+1) _ _ E' B' F7 (by omega) CD Y0 S' Yc;have e:n-j=n-(j+1)+1:=by omega
  refine⟨?_,rfl,λi hi=>?_,?_,?_,?_⟩
  ·show(lY (cE n k J) m (j+1) _ _).length+1=_;rw[I.len];omega
  ·cases i with
   |zero=>
    show Kp n (j+0) rows ((lY (cE n k J) m (j+1) _ _).getD 0 []);rw[I.head];exact hx
   |succ i=>
    have:=I.ext i (by omega);rw[show j+(i+1)=j+1+i by omega];exact this
  ·rw[e];exact I.last
  ·rw[e];exact I.rs
  ·rw[e];exact I.TY
variable {m:Nat}
theorem tX(hm:m<x.length):(x.set m v).getD c 0=if c=m then v else x.getD c 0:=by
 rw[getD_eq_getElem?_getD,getD_eq_getElem?_getD];by_cases e:c=m
 ·subst e;rw[if_pos rfl,getElem?_set_self hm];rfl
 ·rw[if_neg e,getElem?_set_ne (Ne.symm e)]
variable {St:Nat->Bool} in
theorem KQ{P:Nat->Nat->Rat}{Bd p:Nat->Rat}{Ls:List (List Row)}{rows:List Row}(I:Run n k J St P Bd p 0 Ls rows):∀(m:Nat) (x:List Rat),m<=n->x.length=n+1->(∀c,c<m->x.getD c 0=0)->(∀r∈Ls.getD m [],Hd n (xf x) (aG n r))->
  (mJ Ls m x).length=n+1/\(mJ Ls m x).getD n 0=x.getD n 0/\∀r∈rows,Hd n (xf (mJ Ls m x)) (aG n r)
 |0,x,hm,hx,h0,hh=>⟨hx,rfl,by rw[<- I.head];exact hh⟩
 |m+1,x,hm,hx,h0,hh=>by
  have ex:=I.ext m (by omega);rw[zero_add]at ex;have h1:=ex x hx (h0 m (by omega)) hh;have dw:m<x.length:=by omega
  have e:xf (x.set m (choice (Ls.getD m []) m x))=put (xf x) m (choice (Ls.getD m []) m x):=funext λc=>tX dw;obtain⟨a,b,c⟩:=KQ I m (x.set m (choice (Ls.getD m []) m x)) (by omega) (by rw[length_set];exact hx) (λc hc=>by
   rw[tX dw,if_neg (by omega)];exact h0 c (by omega)) (λr hr=>by rw[e];exact h1 r hr)
  refine⟨a,?_,c⟩;show(mJ Ls m (x.set m (choice (Ls.getD m []) m x))).getD n 0=_;rw[b,tX dw,if_neg (by omega)]
abbrev Ol:=Kn×List Rat×Rat
def ie (qs:List Rat):Nat:=qs.foldl (λm q=>lcm m q.den) 1
def whole (kd:Kn) (qs:List Rat):Row:=(kd,qs.map λq=>q.num*((ie qs/q.den:Nat):Int))
def aZ (k i:Nat):List Rat:=(List.range k).map λc=>if i=c then 1 else 0
def cC (k:Nat):Nat->List Ol->List Row
 |_,[]=>[]
 |i,o::os=>whole o.1 (o.2.1++[0,o.2.2]++aZ k i)::cC k (i+1) os
def eX (p:List Rat) (k:Nat):Row:=whole .eq (p.map (λq=>0-q)++[1,0]++List.replicate k 0)
def bh (p:List Rat) (os:List Ol):List Row:=cC os.length 0 os++[eX p os.length]
def knd (os:List Ol) (i:Nat):Kn:=(os.getD i (.eq,[],0)).1
def kv (os:List Ol) (i c:Nat):Rat:=(os.getD i (.eq,[],0)).2.1.getD c 0
def nD (os:List Ol) (i:Nat):Rat:=(os.getD i (.eq,[],0)).2.2
def jO (os:List Ol) (i:Nat):Bool:=decide (knd os i≠.eq)
def sO (os:List Ol) (i:Nat):Bool:=decide (knd os i=.lt)
def cH (p:List Rat) (os:List Ol):List (List Row):=lY (cE p.length os.length (jO os)) p.length 0 1 (bh p os)
theorem lcm_dvd:∀(qs:List Rat) (m:Nat),(∀q∈qs,q.den∣qs.foldl (λm q=>lcm m q.den) m)/\m∣qs.foldl (λm q=>lcm m q.den) m
 |[],m=>⟨λq hq=>by simp at hq,Nat.dvd_refl m⟩
 |y::qs,m=>by
  obtain⟨h1,h2⟩:=lcm_dvd qs (lcm m y.den);rw[foldl_cons];refine⟨λq hq=>?_,dvd_trans (Nat.dvd_lcm_left _ _) h2⟩;rcases mem_cons.mp hq with e|h
  ·rw[e];exact dvd_trans (Nat.dvd_lcm_right _ _) h2
  ·exact h1 q h
theorem lcm_pos:∀(qs:List Rat) (m:Nat),0<m->0<qs.foldl (λm q=>lcm m q.den) m
 |[],m,h=>h
 |y::qs,m,h=>lcm_pos qs _ (Nat.lcm_pos h y.den_pos)
theorem tR(qs:List Rat):0<ie qs:=lcm_pos qs 1 (by decide)
theorem ji(q:Rat):(q.num:Rat)=q*(q.den:Rat):=by
 have e:q=(q.num:Rat)/(q.den:Rat):=by rw[<- Rat.mkRat_eq_div,mkRat_self]
 have h:(q.den:Rat)≠0:=λz=>q.den_nz (Rat.natCast_eq_zero_iff.mp z);generalize (q.num:Rat)=a at *;generalize (q.den:Rat)=b at *;grind
variable {qs:List Rat}
theorem Mc{q:Rat}(h:q∈qs):((q.num*((ie qs/q.den:Nat):Int):Int):Rat)=(ie qs:Rat)*q:=by
 obtain⟨d,hd⟩:=(lcm_dvd qs 1).1 q h;have dM:ie qs=q.den*d:=hd;have e:ie qs/q.den=d:=by rw[dM,Nat.mul_div_cancel_left _ q.den_pos]
 rw[e,intCast_mul,ji q,dM,Rat.natCast_mul];show q*(q.den:Rat)*(d:Rat)=(q.den:Rat)*(d:Rat)*q;grind
theorem gJ{kd:Kn}(c:Nat):((ent (whole kd qs) c:Int):Rat)=(ie qs:Rat)*qs.getD c 0:=by
 unfold ent whole;rw[getD_eq_getElem?_getD,getD_eq_getElem?_getD,getElem?_map];cases h:qs[c]? with
 |none=>show((0:Int):Rat)=_*0;grind
 |some q=>exact Mc (mem_of_getElem? h)
theorem iQ{ps us:List Rat}{s:Rat}(c:Nat):(ps++[s,b]++us).getD c 0=if c<ps.length then ps.getD c 0 else if c=ps.length then s else if c=ps.length+1 then b else us.getD (c-ps.length-2) 0:=by
 rw[append_assoc];simp only[getD_eq_getElem?_getD];by_cases h:c<ps.length
 ·rw[if_pos h,getElem?_append_left h]
 ·rw[if_neg h,getElem?_append_right (by omega)];by_cases h1:c=ps.length
  ·rw[if_pos h1,h1,sub_self];rfl
  ·rw[if_neg h1];by_cases h2:c=ps.length+1
   ·rw[if_pos h2,h2,Nat.add_sub_cancel_left];rfl
   ·rw[if_neg h2,show c-ps.length=(c-ps.length-2)+2 by omega];rfl
variable {i:Nat}
theorem IH(hc:c<k):(aZ k i).getD c 0=if i=c then 1 else 0:=by
 unfold aZ;rw[getD_eq_getElem?_getD,getElem?_map,getElem?_range hc];rfl
theorem iB(k i:Nat):(aZ k i).length=k:=by unfold aZ;rw[length_map,length_range]
theorem om{f:Nat->Rat}{i:Nat}:∀{k:Nat},i<k->(∀c,c<k->c≠i->f c=0)->sm k f=f i
 |0,h,_=>by omega
 |k+1,h,hz=>by
  show sm k f+f k=f i;by_cases e:i=k
  ·subst e;rw[gA λc hc=>hz c (by omega) (by omega)];grind
  ·rw[om (i:=i) (by omega) λc hc cx=>hz c (by omega) cx,hz k (by omega) (by omega)];grind
theorem rp(h:0<m):0<(m:Rat):=by
 have:((0:Nat):Rat)<(m:Rat):=Rat.natCast_lt_natCast.mpr h;exact this
structure nG (n k:Nat) (os:List Ol) (i:Nat) (r:Row):Prop where
 kd:r.1=knd os i
 len:r.2.length=n+2+k
 ex:∃M:Rat,0<M/\(∀c,c<n->(aG n r).a c=M*kv os i c)/\(aG n r).a n=0/\(aG n r).b=M*nD os i/\∀c,c<k->(aG n r).w c=if i=c then M else 0
structure ET (n k:Nat) (p:List Rat) (r:Row):Prop where
 kd:r.1=.eq
 len:r.2.length=n+2+k
 ex:∃M:Rat,0<M/\(∀c,c<n->(aG n r).a c=- (M*p.getD c 0))/\(aG n r).a n=M/\(aG n r).b=0/\∀c,c<k->(aG n r).w c=0
variable {os:List Ol}
theorem uJ{o:Ol}(ho:os[i]?=some o)(hl:o.2.1.length=n)(hk:i<k):nG n k os i (whole o.1 (o.2.1++[0,o.2.2]++aZ k i)):=by
 have e0:os.getD i (.eq,[],0)=o:=by rw[getD_eq_getElem?_getD,ho];rfl
 refine⟨by unfold knd;rw[e0];rfl,?_,(ie (o.2.1++[0,o.2.2]++aZ k i):Rat),rp (tR _),λc hc=>?_,?_,?_,λc hc=>?_⟩
 ·show(List.map _ _).length=_;rw[length_map,length_append,length_append,iB,hl];rfl
 ·show((ent _ c:Int):Rat)=_;rw[gJ,iQ,if_pos (by omega)];unfold kv;rw[e0]
 ·show((ent _ n:Int):Rat)=_;rw[gJ,iQ,if_neg (by omega),if_pos hl.symm];grind
 ·show((ent _ (n+1):Int):Rat)=_;rw[gJ,iQ,if_neg (by omega),if_neg (by omega),if_pos (by omega)];unfold nD;rw[e0]
 ·show((ent _ (n+2+c):Int):Rat)=_;rw[gJ,iQ,if_neg (by omega),if_neg (by omega),if_neg (by omega),show n+2+c-o.2.1.length-2=c by omega,IH hc];split<;>grind
variable {p:List Rat}
theorem yP(k:Nat):ET p.length k p (eX p k):=by
 have hl:(p.map (λq=>0-q)).length=p.length:=length_map ..;refine⟨rfl,?_,(ie (p.map (λq=>0-q)++[1,0]++List.replicate k 0):Rat),rp (tR _),λc hc=>?_,?_,?_,λc hc=>?_⟩
 ·show(List.map _ _).length=_;rw[length_map,length_append,length_append,length_replicate,hl];rfl
 ·show((ent (eX p k) c:Int):Rat)=_;unfold eX;rw[gJ,iQ,if_pos (by omega)];have:(p.map (λq=>0-q)).getD c 0=- p.getD c 0:=by
   rw[getD_eq_getElem?_getD,getD_eq_getElem?_getD,getElem?_map];cases p[c]? with
   |none=>show(0:Rat)=-0;grind
   |some q=>show 0-q=-q;grind
  rw[this];grind
 ·show((ent (eX p k) p.length:Int):Rat)=_;unfold eX;rw[gJ,iQ,if_neg (by omega),if_pos hl.symm];grind
 ·show((ent (eX p k) (p.length+1):Int):Rat)=_;unfold eX;rw[gJ,iQ,if_neg (by omega),if_neg (by omega),if_pos (by omega)];grind
 ·show((ent (eX p k) (p.length+2+c):Int):Rat)=_;unfold eX;rw[gJ,iQ,if_neg (by omega),if_neg (by omega),if_neg (by omega)];have:(List.replicate k (0:Rat)).getD (p.length+2+c-(p.map (λq=>0-q)).length-2) 0=0:=by
   rw[getD_eq_getElem?_getD,getElem?_replicate];split<;>rfl
  rw[this];grind
theorem lC{n k:Nat}{os:List Ol}:∀(l:List Ol) (i0:Nat),(∀i,i<l.length->os[i0+i]?=l[i]?)->(∀o∈l,o.2.1.length=n)->i0+l.length<=k->∀r,r∈cC k i0 l↔∃i o,i<l.length/\l[i]?=some o/\r=whole o.1 (o.2.1++[0,o.2.2]++aZ k (i0+i))
 |[],i0,_,_,_,r=>by simp[cC]
 |o::l,i0,h1,h2,h3,r=>by
  have ih:=lC (n:=n) (k:=k) (os:=os) l (i0+1) (λi hi=>by
   have:=h1 (i+1) (by rw[length_cons];omega);rw[show i0+1+i=i0+(i+1) by omega,this];rfl) (λo ho=>h2 o (mem_cons_of_mem _ ho)) (by rw[length_cons]at h3;omega) r
  show r∈whole o.1 (o.2.1++[0,o.2.2]++aZ k i0)::cC k (i0+1) l↔_;rw[mem_cons,ih];constructor
  ·rintro(e|⟨i,o',hi,q4,e⟩)
   ·exact⟨0,o,by rw[length_cons];omega,rfl,e⟩
   ·exact⟨i+1,o',by rw[length_cons];omega,q4,by rw[show i0+(i+1)=i0+1+i by omega];exact e⟩
  ·rintro⟨i,o',hi,q4,e⟩;cases i with
   |zero=>cases q4;exact .inl e
   |succ i=>exact .inr ⟨i,o',by rw[length_cons]at hi;omega,q4,by rw[show i0+1+i=i0+(i+1) by omega];exact e⟩
theorem jr(hl:∀o∈os,o.2.1.length=p.length)(hr:r∈bh p os):(∃i,i<os.length/\nG p.length os.length os i r)\/ET p.length os.length p r:=by
 unfold bh at hr;rcases mem_append.mp hr with h|h
 ·obtain⟨i,o,hi,ho,e⟩:=(lC (n:=p.length) (os:=os) os 0 (λi _=>by rw[zero_add]) hl (by omega) r).mp h;rw[zero_add]at e;exact .inl ⟨i,hi,by rw[e];exact uJ ho (hl o (mem_of_getElem? ho)) hi⟩
 ·rw[mem_singleton.mp h];exact .inr (yP _)
theorem ze(hl:∀o∈os,o.2.1.length=p.length)(hi:i<os.length):∃r∈bh p os,nG p.length os.length os i r:=by
 have ho:=getElem?_eq_getElem hi;refine⟨_,mem_append.mpr (.inl ((lC (n:=p.length) (os:=os) os 0 (λi _=>by rw[zero_add]) hl (by omega) _).mpr ⟨i,_,hi,ho,rfl⟩)),?_⟩;rw[zero_add];exact uJ ho (hl _ (mem_of_getElem? ho)) hi
theorem tZ(hl:∀o∈os,o.2.1.length=p.length):Rs p.length os.length (bh p os):=by
 refine⟨λr hr=>(jr hl hr).elim (fun⟨i,hi,h⟩=>h.len) (·.len),λr hr he=>?_⟩;have uniq:∀{r s:Row} {i:Nat},r∈bh p os->s∈bh p os->nG p.length os.length os i r->nG p.length os.length os i s->i<os.length->r=s:=by
  intro r s i hr hs h1 h2 hi

  have key:∀{t:Row},t∈bh p os->nG p.length os.length os i t->t=whole (os[i]).1 ((os[i]).2.1++[0,(os[i]).2.2]++aZ os.length i):=by
   intro t ht hT;obtain⟨M,mp,_,a1,_,w1⟩:=hT.ex;unfold bh at ht;rcases mem_append.mp ht with h|h
   ·obtain⟨i',o,gN,ho,e⟩:=(lC (n:=p.length) (os:=os) os 0 (λi _=>by rw[zero_add]) hl (by omega) t).mp h;rw[zero_add]at e;have hR:=uJ (n:=p.length) (k:=os.length) ho (hl o (mem_of_getElem? ho)) gN;rw[<- e]at hR;obtain⟨M',GJ,_,_,_,w2⟩:=hR.ex;have x1:=w1 i hi;have x2:=w2 i hi;rw[if_pos rfl]at x1;have:i'=i:=by
     apply Classical.byContradiction
     intro z;rw[if_neg z,x1]at x2;grind
    subst this;have:o=os[i']:=by
     have:=getElem?_eq_getElem gN;rw[ho]at this;exact Option.some.inj this
    rw[e,this]
   ·rw[mem_singleton.mp h]at a1;obtain⟨M',GJ,_,a2,_⟩:=(yP (p:=p) os.length).ex;rw[a1]at a2;grind
  rw[key hr h1,key hs h2]
 rcases jr hl hr with⟨i,hi,h⟩|h
 ·obtain⟨M,mp,_,_,_,w1⟩:=h.ex;refine⟨p.length+2+i,λz=>?_,λs hs Le cx=>?_⟩
  ·have:=w1 i hi;rw[if_pos rfl]at this;have:(ent r (p.length+2+i):Rat)=M:=this;rw[z]at this;have:(0:Rat)=M:=this;grind
  ·rcases jr hl hs with⟨i',gN,h'⟩|h'
   ·obtain⟨M',GJ,_,_,_,w2⟩:=h'.ex;have e:=w2 i hi;have:i'≠i:=λz=>cx (uniq hs hr (z▸h') h hi);rw[if_neg this]at e;exact cA.mp e
   ·obtain⟨M',GJ,_,_,_,w2⟩:=h'.ex;exact cA.mp (w2 i hi)
 ·obtain⟨M,mp,_,a1,_,w1⟩:=h.ex;refine⟨p.length,λz=>?_,λs hs Le cx=>?_⟩
  ·have:(ent r p.length:Rat)=M:=a1;rw[z]at this;have:(0:Rat)=M:=this;grind
  ·rcases jr hl hs with⟨i',gN,h'⟩|h'
   ·obtain⟨M',GJ,_,a2,_⟩:=h'.ex;exact cA.mp a2
   ·
    exfalso;apply cx
    have key:∀{t:Row},t∈bh p os->ET p.length os.length p t->t=eX p os.length:=by
     intro t ht hT;unfold bh at ht;rcases mem_append.mp ht with h|h
     ·obtain⟨i',o,gN,ho,e⟩:=(lC (n:=p.length) (os:=os) os 0 (λi _=>by rw[zero_add]) hl (by omega) t).mp h;rw[zero_add]at e;have hR:=uJ (n:=p.length) (k:=os.length) ho (hl o (mem_of_getElem? ho)) gN;rw[<- e]at hR;obtain⟨M',GJ,_,a3,_⟩:=hR.ex;obtain⟨M2,mp2,_,a4,_⟩:=hT.ex;rw[a3]at a4;grind
     ·exact mem_singleton.mp h
    rw[key hs h',key hr h]
theorem AE(hl:∀o∈os,o.2.1.length=p.length):Sg p.length os.length 0 (jO os) (sO os) [] (λi c=>if c<p.length then kv os i c else 0) (nD os) ((bh p os).map (aG p.length)):=by
 have GD:∀{r:Row},r∈bh p os->r.1≠.eq->∃i,i<os.length/\nG p.length os.length os i r/\jO os i=true:=λhr hk=>by
  rcases jr hl hr with⟨i,hi,h⟩|h
  ·refine⟨i,hi,h,?_⟩;unfold jO;rw[h.kd]at hk;exact decide_eq_true hk
  ·exact absurd h.kd hk
 have Kw:∀{r:Row} {i:Nat} {M:Rat},jO os i=true->(∀c,c<os.length->(aG p.length r).w c=if i=c then M else 0)->∀c,c<os.length->uo (jO os) (aG p.length r) c=if i=c then M else 0:=by
  intro r i M hj hw c hc;unfold uo;by_cases e:i=c
  ·subst e;rw[if_pos hj,hw i hc]
  ·rw[if_neg e];split
   ·rw[hw c hc,if_neg e]
   ·rfl
 refine⟨by omega,λr hr c hc=>by omega,λc hc=>by simp at hc,λr hr he i hi hj=>?_,λr hr he i hi hj=>?_,λr hr he=>?_,λr hr he=>?_,λr hr he c hc=>?_,λr hr he=>?_,λu hu=>?_⟩
 ·obtain⟨r,A4,rfl⟩:=mem_map.mp hr;rcases jr hl A4 with⟨i',gN,h⟩|h
  ·obtain⟨M,mp,_,_,_,w1⟩:=h.ex;rw[w1 i hi];apply if_neg
   intro e;subst e;have h1:r.1=.eq:=he;rw[h.kd]at h1;unfold jO at hj;exact of_decide_eq_true hj h1
  ·obtain⟨M,mp,_,_,_,w1⟩:=h.ex;exact w1 i hi
 ·obtain⟨r,hr,rfl⟩:=mem_map.mp hr;obtain⟨i',gN,h,nA⟩:=GD (by assumption) he;obtain⟨M,mp,_,_,_,w1⟩:=h.ex;rw[w1 i hi];split<;>grind
 ·obtain⟨r,hr,rfl⟩:=mem_map.mp hr;obtain⟨i',gN,h,nA⟩:=GD (by assumption) he;obtain⟨M,mp,_,_,_,w1⟩:=h.ex;exact⟨i',gN,nA,by rw[w1 i' gN,if_pos rfl];exact mp⟩
 ·obtain⟨r,hr,rfl⟩:=mem_map.mp hr;obtain⟨i',gN,h,nA⟩:=GD (by assumption) he;obtain⟨M,mp,_,_,_,w1⟩:=h.ex;have hk:(aG p.length r).kd=knd os i':=h.kd;rw[hk];constructor
  ·intro e;exact⟨i',gN,nA,decide_eq_true e,by rw[w1 i' gN,if_pos rfl];exact mp⟩
  ·rintro⟨i,hi,_,hs,hp⟩;rw[w1 i hi]at hp;by_cases e:i'=i
   ·subst e;exact of_decide_eq_true hs
   ·rw[if_neg e]at hp;grind
 ·obtain⟨r,hr,rfl⟩:=mem_map.mp hr;obtain⟨i',gN,h,nA⟩:=GD (by assumption) he;obtain⟨M,mp,a1,a2,_,w1⟩:=h.ex;have e:=om (k:=os.length) (i:=i') (f:=λi=>uo (jO os) (aG p.length r) i*(if c<p.length then kv os i c else 0)) gN (λc' jk cx=>by rw[Kw nA w1 c' jk,if_neg (Ne.symm cx)];grind);rw[e,Kw nA w1 i' gN,if_pos rfl];by_cases Hm:c<p.length
  ·rw[if_pos Hm,a1 c Hm]
  ·rw[if_neg Hm,show c=p.length by omega,a2];grind
 ·obtain⟨r,hr,rfl⟩:=mem_map.mp hr;obtain⟨i',gN,h,nA⟩:=GD (by assumption) he;obtain⟨M,mp,_,_,b1,w1⟩:=h.ex;have e:=om (k:=os.length) (i:=i') (f:=λi=>uo (jO os) (aG p.length r) i*nD os i) gN (λc' jk cx=>by rw[Kw nA w1 c' jk,if_neg (Ne.symm cx)];grind);rw[e,Kw nA w1 i' gN,if_pos rfl,b1]
 ·
  obtain⟨i,hi,cx⟩:=hu.ne;have hj:jO os i=true:=by
   apply Classical.byContradiction
   intro z;exact cx (hu.gZ.off i hi z)
  have ce:jz os.length (λi=>jO os i=true) [] (λi c=>if c<p.length then kv os i c else 0) (λc=>if i=c then 1 else 0):=by
   refine⟨λc hc=>?_,λc hc hz=>if_neg fun(e:i=c)=>hz (e▸hj),λc hc=>by simp at hc⟩;show(0:Rat)<=if i=c then 1 else 0;split<;>grind
  obtain⟨c,c0,hc⟩:=hu.alone _ ce λi' gN z=>if_neg fun(e:i=i')=>cx (e▸z);obtain⟨r,hr,hR⟩:=ze hl hi;obtain⟨M,mp,_,_,_,w1⟩:=hR.ex;have e1:=hc i hi;rw[if_pos rfl]at e1;have cp:0<c:=by
   rcases Rat.le_iff_lt_or_eq.mp c0 with h|h
   ·exact h
   ·rw[<- h]at e1;grind
  refine⟨aG p.length r,mem_map.mpr ⟨r,hr,rfl⟩,?_,M*c,bL mp cp,λi' gN nA=>?_⟩
  ·show r.1≠.eq;rw[hR.kd];unfold jO at hj;exact of_decide_eq_true hj
  ·have e2:=hc i' gN;rw[w1 i' gN];split
   ·rename_i e;rw[if_pos e]at e2;rw[show M*c*u i'=M*(c*u i') by grind,<- e2];grind
   ·rename_i e;rw[if_neg e]at e2;rw[show M*c*u i'=M*(c*u i') by grind,<- e2];grind
theorem Ht(hl:∀o∈os,o.2.1.length=p.length):∀r∈bh p os,nH p.length os.length (kv os) (nD os) (λc=>p.getD c 0) (aG p.length r):=by
 intro r hr;rcases jr hl hr with⟨i,hi,h⟩|h
 ·obtain⟨M,mp,a1,a2,b1,w1⟩:=h.ex;refine⟨λc hc=>?_,?_⟩
  ·rw[om (k:=os.length) (i:=i) (f:=λi=>(aG p.length r).w i*kv os i c) hi (λc' jk cx=>by rw[w1 c' jk,if_neg (Ne.symm cx)];grind),w1 i hi,if_pos rfl,a1 c hc,a2];grind
  ·rw[om (k:=os.length) (i:=i) (f:=λi=>(aG p.length r).w i*nD os i) hi (λc' jk cx=>by rw[w1 c' jk,if_neg (Ne.symm cx)];grind),w1 i hi,if_pos rfl,b1]
 ·obtain⟨M,mp,a1,a2,b1,w1⟩:=h.ex;refine⟨λc hc=>?_,?_⟩
  ·rw[gA (k:=os.length) (f:=λi=>(aG p.length r).w i*kv os i c) (λc' jk=>by rw[w1 c' jk];grind),a1 c hc,a2];grind
  ·rw[gA (k:=os.length) (f:=λi=>(aG p.length r).w i*nD os i) (λc' jk=>by rw[w1 c' jk];grind),b1]
theorem uA(hl:∀o∈os,o.2.1.length=p.length):Run p.length os.length (jO os) (sO os) (kv os) (nD os) (λc=>p.getD c 0) 0 (cH p os) (bh p os):=
 FN p.length 0 1 (bh p os) [] _ _ (by omega) rfl (tZ hl) (AE hl) (Ht hl)
def aY (p:List Rat) (os:List Ol):List Row:=(cH p os).getD p.length []
def iY (os:List Ol) (ws:List Rat) (c:Nat):Rat:=sm os.length λi=>ws.getD i 0*kv os i c
def qt (os:List Ol) (ws:List Rat):Rat:=sm os.length λi=>ws.getD i 0*nD os i
def DC (os:List Ol) (ws:List Rat):Prop:=∃i,i<os.length/\knd os i=.lt/\0<ws.getD i 0
structure S2 (os:List Ol) (ws:List Rat):Prop where
 len:ws.length=os.length
 nn:∀i,i<os.length->knd os i≠.eq->0<=ws.getD i 0
def bI (p x:List Rat):Rat:=sm p.length λc=>p.getD c 0*x.getD c 0
def cF (o:Ol) (x:List Rat):Prop:=rel o.1 (bI o.2.1 x) o.2.2
theorem ud{f:Int->Rat}(f0:f 0=0):((l.drop m).map f).getD i 0=f (l.getD (m+i) 0):=by
 rw[getD_eq_getElem?_getD,getD_eq_getElem?_getD,getElem?_map,List.getElem?_drop];cases l[m+i]? with
 |none=>exact f0.symm
 |some x=>rfl
theorem Wu(q:Rat):((0:Int):Rat)/q=0:=by
 show(0:Rat)/q=0;grind
theorem vJ(n c:Nat):(List.replicate n (0:Rat)).getD c 0=0:=by
 rw[getD_eq_getElem?_getD,getElem?_replicate];split<;>rfl
theorem xy:ma r (List.replicate (n+1) 0)=(aG n r).b:=by
 rw[zR (n:=n) (by rw[length_replicate])];have:vl n (aG n r) (xf (List.replicate (n+1) 0))=0:=gA λc _=>by
  show _*(List.replicate (n+1) (0:Rat)).getD c 0=0;rw[vJ];grind
 rw[this];grind
structure Vb (p:List Rat) (os:List Ol) (r:Row):Prop where
 len:r.2.length=p.length+2+os.length
 sums:∀c,c<p.length->sm os.length (λi=>(aG p.length r).w i*kv os i c)=(aG p.length r).a p.length*p.getD c 0
 bd:sm os.length (λi=>(aG p.length r).w i*nD os i)=(aG p.length r).b
 xN:r.1=.eq->∀i,i<os.length->knd os i≠.eq->(aG p.length r).w i=0
 nn:r.1≠.eq->∀i,i<os.length->knd os i≠.eq->0<=(aG p.length r).w i
 st:r.1=.lt->∃i,i<os.length/\knd os i=.lt/\0<(aG p.length r).w i
 zero:∀c,c<p.length->(aG p.length r).a c=0
theorem GL(hl:∀o∈os,o.2.1.length=p.length)(hr:r∈aY p os):Vb p os r:=by
 have I:=uA hl;obtain⟨E,B,β,S⟩:=I.last;have L:=I.TY r (by rw[sub_zero];exact hr);have mem:aG p.length r∈((cH p os).getD (p.length-0) []).map (aG p.length):=mem_map.mpr ⟨r,by rw[sub_zero];exact hr,rfl⟩;have z:∀c,c<p.length->(aG p.length r).a c=0:=λc hc=>S.zero _ mem c hc;refine⟨I.rs.len r (by rw[sub_zero];exact hr),λc hc=>?_,L.b.symm,λhe i hi hk=>S.xN _ mem he i hi (decide_eq_true hk),λhe i hi hk=>S.nn _ mem he i hi (decide_eq_true hk),λhe=>?_,z⟩
 ·have:=L.a c hc;rw[z c hc]at this;grind
 ·obtain⟨i,hi,_,hs,hp⟩:=(S.st _ mem (by show r.1≠.eq;rw[he];simp)).mp he;exact⟨i,hi,of_decide_eq_true hs,hp⟩
structure RE (p:List Rat) (os:List Ol) (ws:List Rat) (s b:Rat) (str:Bool):Prop where
 vw:S2 os ws
 parts:∀c,c<p.length->iY os ws c=s*p.getD c 0
 bd:qt os ws=b
 st:str=true->DC os ws
variable {ws:List Rat}
theorem qK{q:Rat}(h:Vb p os r)(hlen:ws.length=os.length)(hw:∀i,i<os.length->ws.getD i 0=q*(aG p.length r).w i)(hq:0<q\/r.1=.eq):RE p os ws (q*(aG p.length r).a p.length) (q*(aG p.length r).b) (decide (r.1=.lt)):=by
 refine⟨⟨hlen,λi hi hk=>?_⟩,λc hc=>?_,?_,λe=>?_⟩
 ·rw[hw i hi];by_cases he:r.1=.eq
  ·rw[h.xN he i hi hk];grind
  ·rcases hq with hq|hq
   ·exact dg (le_of_lt hq) (h.nn he i hi hk)
   ·exact absurd hq he
 ·unfold iY;rw[aE (g:=λi=>q*((aG p.length r).w i*kv os i c)) (λi hi=>by rw[hw i hi];grind),bw,h.sums c hc];grind
 ·unfold qt;rw[aE (g:=λi=>q*((aG p.length r).w i*nD os i)) (λi hi=>by rw[hw i hi];grind),bw,h.bd]
 ·have e':=of_decide_eq_true e;obtain⟨i,hi,hk,hp⟩:=h.st e';refine⟨i,hi,hk,?_⟩;rw[hw i hi];rcases hq with hq|hq
  ·exact bL hq hp
  ·rw[e']at hq;cases hq
theorem sF(hl:∀o∈os,o.2.1.length=p.length)(k8:way=1\/way=-1){t:fQ}(h:endOf p.length (aY p os) way=some t):RE p os t.2.2 (way:Rat) t.2.1 t.1:=by
 obtain⟨⟨r,hr,hc,k1,k2,k3⟩,_⟩:=(mD (aY p os) p.length (List.replicate (p.length+1) 0) way).some t h;have L:=GL hl hr;have A6:way*ent r p.length≠0:=by rcases hc with hc|⟨hc,_⟩<;>omega
 have qne:((way*ent r p.length:Int):Rat)≠0:=λz=>A6 (cA.mp z);have A5:0<((way*ent r p.length:Int):Rat)⁻¹\/r.1=.eq:=by
  rcases hc with hc|⟨_,e⟩
  ·exact .inl (inv_pos.mpr (iO.mpr hc))
  ·exact .inr e
 have hlen:t.2.2.length=os.length:=by
  rw[k3];unfold o8;rw[length_map,length_drop,L.len,length_replicate];omega
 have hw:∀i,i<os.length->t.2.2.getD i 0=((way*ent r p.length:Int):Rat)⁻¹*(aG p.length r).w i:=λi hi=>by
  rw[k3];unfold o8;rw[length_replicate,ud (Wu _)];show(ent r (p.length+1+1+i):Rat)/_=_*(ent r (p.length+2+i):Rat);rw[show p.length+1+1+i=p.length+2+i by omega];grind
 have P:=qK L hlen hw A5;have e1:((way*ent r p.length:Int):Rat)⁻¹*(aG p.length r).a p.length=(way:Rat):=by
  show((way*ent r p.length:Int):Rat)⁻¹*(ent r p.length:Rat)=(way:Rat);have a0:(ent r p.length:Rat)≠0:=λz=>A6 (by rw[cA.mp z];omega);rw[intCast_mul];rcases k8 with e|e
  ·subst e;rw[Rat.intCast_one];grind
  ·subst e;have:((-1:Int):Rat)=-1:=rfl;rw[this];grind
 have e2:((way*ent r p.length:Int):Rat)⁻¹*(aG p.length r).b=t.2.1:=by
  rw[k2];unfold ef;rw[xy];grind
 rw[e1,e2,<- k1]at P;exact P
theorem Bo(hl:∀o∈os,o.2.1.length=p.length)(h:never p.length (aY p os)=some ws):S2 os ws/\(∀c,c<p.length->iY os ws c=0)/\(qt os ws<0\/(qt os ws=0/\DC os ws)):=by
 unfold never at h;cases hr:gX p.length (aY p os)with
 |some w=>
  rw[hr]at h;cases h;unfold gX at hr;obtain⟨r,hf,e⟩:∃r,(aY p os).find? (λr=>decide (ent r p.length=0)&&cX r.1 (ent r (p.length+1):Rat))=some r/\_=ws:=by
   cases hf:(aY p os).find? (λr=>decide (ent r p.length=0)&&cX r.1 (ent r (p.length+1):Rat))with
   |none=>rw[hf]at hr;cases hr
   |some r=>rw[hf]at hr;exact⟨r,rfl,Option.some.inj hr⟩
  have hm:=mem_of_find?_eq_some hf;have hp:=find?_some hf;rw[and_eq_true,decide_eq_true_iff]at hp;obtain⟨h0,hn⟩:=hp;have L:=GL hl hm;have hlen:ws.length=os.length:=by rw[<- e,length_map,length_drop,L.len];omega
  by_cases hw:r.1=.eq/\0<ent r (p.length+1)
  ·have H0:∀i,i<os.length->ws.getD i 0=(-1)*(aG p.length r).w i:=λi hi=>by
    rw[<- e,if_pos hw,ud (f:=fun(w:Int)=>(((-1:Int)*w:Int):Rat)) rfl,intCast_mul];rfl
   have P:=qK L hlen H0 (.inr hw.1);refine⟨P.vw,λc hc=>?_,.inl ?_⟩
   ·rw[P.parts c hc];have:(aG p.length r).a p.length=0:=cA.mpr h0;rw[this];grind
   ·rw[P.bd];have:0<(aG p.length r).b:=iO.mpr hw.2;grind
  ·have H0:∀i,i<os.length->ws.getD i 0=1*(aG p.length r).w i:=λi hi=>by
    rw[<- e,if_neg hw,ud (f:=fun(w:Int)=>(((1:Int)*w:Int):Rat)) rfl,intCast_mul];rfl
   have P:=qK L hlen H0 (.inl (by grind));have a0:(aG p.length r).a p.length=0:=cA.mpr h0;refine⟨P.vw,λc hc=>by rw[P.parts c hc,a0];grind,?_⟩;rw[P.bd];have eb:1*(aG p.length r).b=(ent r (p.length+1):Rat):=by show 1*(ent r (p.length+1):Rat)=_;grind
   rw[eb];cases hk:r.1 with
   |eq=>
    rw[hk]at hn;have lP:(ent r (p.length+1):Rat)≠0:=of_decide_eq_true hn;have Ue:¬0<ent r (p.length+1):=λz=>hw ⟨hk,z⟩;have hn3:ent r (p.length+1)≠0:=λz=>lP (by rw[z];rfl);exact .inl (qQ.mpr (by omega))
   |le=>rw[hk]at hn;exact .inl (of_decide_eq_true hn)
   |lt=>
    rw[hk]at hn;have lP:(decide ((ent r (p.length+1):Rat)<0) || decide ((ent r (p.length+1):Rat)=0))=true:=hn;rw[or_eq_true,decide_eq_true_iff,decide_eq_true_iff]at lP;rcases lP with z|z
    ·exact .inl z
    ·exact .inr ⟨z,P.st (decide_eq_true hk)⟩
 |none=>
  rw[hr]at h;have h':jJ p.length (aY p os)=some ws:=h;unfold jJ at h';cases ht:endOf p.length (aY p os) 1 with
  |none=>rw[ht]at h';cases h'
  |some t=>
   cases hb:endOf p.length (aY p os) (-1)with
   |none=>rw[ht,hb]at h';cases h'
   |some b=>
    rw[ht,hb]at h';have h2:(if cX (if t.1=true\/b.1=true then .lt else .le) (t.2.1+b.2.1)=true then some (zipWith (λx y=>x+y) t.2.2 b.2.2)else none)=some ws:=h';by_cases hn:cX (if t.1=true\/b.1=true then .lt else .le) (t.2.1+b.2.1)=true
    ·rw[if_pos hn]at h2;have e:=Option.some.inj h2;have Pt:=sF hl (.inl rfl) ht;have Pb:=sF hl (.inr rfl) hb;have c1:((1:Int):Rat)=1:=rfl;have c2:((-1:Int):Rat)=-1:=rfl;rw[c1]at Pt;rw[c2]at Pb;have hlen:ws.length=os.length:=by rw[<- e,length_zipWith,Pt.vw.len,Pb.vw.len,min_self]
     have hw:∀i,i<os.length->ws.getD i 0=t.2.2.getD i 0+b.2.2.getD i 0:=λi hi=>by
      rw[<- e,getD_eq_getElem?_getD,getD_eq_getElem?_getD,getD_eq_getElem?_getD,List.getElem?_zipWith,getElem?_eq_getElem (by rw[Pt.vw.len];exact hi),getElem?_eq_getElem (by rw[Pb.vw.len];exact hi)];rfl
     have TF:=Pt.vw.nn;have TJ:=Pb.vw.nn;have hs:(t.1=true\/b.1=true)->DC os ws:=by
      rintro(z|z)
      ·obtain⟨i,hi,hk,hp⟩:=Pt.st z;have:=TJ i hi (by rw[hk];simp);exact⟨i,hi,hk,by rw[hw i hi];grind⟩
      ·obtain⟨i,hi,hk,hp⟩:=Pb.st z;have:=TF i hi (by rw[hk];simp);exact⟨i,hi,hk,by rw[hw i hi];grind⟩
     have YG:qt os ws=t.2.1+b.2.1:=by
      rw[<- Pt.bd,<- Pb.bd];unfold qt;rw[<- dQ];exact aE λi hi=>by rw[hw i hi];grind
     refine⟨⟨hlen,λi hi hk=>?_⟩,λc hc=>?_,?_⟩
     ·have a:=TF i hi hk;have b':=TJ i hi hk;rw[hw i hi];grind
     ·have e1:iY os ws c=iY os t.2.2 c+iY os b.2.2 c:=by
       unfold iY;rw[<- dQ];exact aE λi hi=>by rw[hw i hi];grind
      rw[e1,Pt.parts c hc,Pb.parts c hc];grind
     ·rw[YG];split at hn
      ·rename_i hst;have lP:(decide (t.2.1+b.2.1<0) || decide (t.2.1+b.2.1=0))=true:=hn;rw[or_eq_true,decide_eq_true_iff,decide_eq_true_iff]at lP;exact lP.elim .inl λz=>.inr ⟨z,hs hst⟩
      ·exact .inl (of_decide_eq_true hn)
    ·rw[if_neg hn]at h2;cases h2
theorem vK(n:Nat)(t:Rat):xf (List.replicate n 0++[t])=put (xf (List.replicate (n+1) 0)) n t:=funext λc=>by
 show(List.replicate n 0++[t]).getD c 0=if c=n then t else(List.replicate (n+1) (0:Rat)).getD c 0;rw[vJ,getD_eq_getElem?_getD];by_cases e:c=n
 ·rw[if_pos e,e,getElem?_append_right (by rw[length_replicate];omega),length_replicate,sub_self];rfl
 ·rw[if_neg e];by_cases h:c<n
  ·rw[getElem?_append_left (by rw[length_replicate];exact h),getElem?_replicate,if_pos h];rfl
  ·rw[List.getElem?_eq_none (by rw[length_append,length_replicate,length_singleton];omega)];rfl
theorem Fy{y:Nat->Rat}(h:nG p.length os.length os i r)(hy:∀c,c<p.length->y c=x.getD c 0)(ho:(os.getD i (.eq,[],0)).2.1.length=p.length):Hd p.length y (aG p.length r)->cF (os.getD i (.eq,[],0)) x:=by
 obtain⟨M,mp,a1,a2,b1,_⟩:=h.ex;intro hd;unfold Hd at hd;have ev:vl p.length (aG p.length r) y=M*bI (os.getD i (.eq,[],0)).2.1 x:=by
  unfold vl bI;show sm p.length _+(aG p.length r).a p.length*y p.length=_;rw[a2,ho,<- bw,aE (g:=λc=>M*(kv os i c*x.getD c 0)) (λc hc=>by rw[a1 c hc,hy c hc];grind)];show sm p.length (λc=>M*(kv os i c*x.getD c 0))+0*y p.length=_;have:sm p.length (λc=>M*(kv os i c*x.getD c 0))=sm p.length λc=>M*((os.getD i (.eq,[],0)).2.1.getD c 0*x.getD c 0):=rfl;rw[this];grind
 rw[ev,b1]at hd;have hk:(aG p.length r).kd=(os.getD i (.eq,[],0)).1:=h.kd;rw[hk]at hd;unfold cF;have hb:nD os i=(os.getD i (.eq,[],0)).2.2:=rfl;rw[hb]at hd;generalize os.getD i (.eq,[],0)=o at *;cases Ll:o.1 with
 |eq=>
  rw[Ll]at hd;have dM:M*bI o.2.1 x=M*o.2.2:=hd;have:M*(bI o.2.1 x-o.2.2)=0:=by grind
  show bI o.2.1 x=o.2.2;rcases mul_eq_zero.mp this with z|z<;>grind
 |le=>rw[Ll]at hd;exact Rat.le_of_mul_le_mul_left hd mp
 |lt=>rw[Ll]at hd;exact Rat.lt_of_mul_lt_mul_left hd (le_of_lt mp)
variable {t:Rat}
theorem Ja(hl:∀o∈os,o.2.1.length=p.length)(h:∀r∈aY p os,Hd p.length (put (xf (List.replicate (p.length+1) 0)) p.length t) (aG p.length r)):
  (ox (cH p os) p.length t).length=p.length/\(∀o∈os,cF o (ox (cH p os) p.length t))/\bI p (ox (cH p os) p.length t)=t:=by
 have I:=uA hl;have h0:∀c,c<p.length->(List.replicate p.length 0++[t]).getD c 0=0:=λc hc=>by
  have:=congrFun (vK p.length t) c;have e:(List.replicate p.length 0++[t]).getD c 0=put (xf (List.replicate (p.length+1) 0)) p.length t c:=this;rw[e];unfold put;rw[if_neg (by omega)];exact vJ _ _
 obtain⟨e1,e2,e3⟩:=KQ I p.length (List.replicate p.length 0++[t]) (le_refl _) (by rw[length_append,length_replicate,length_singleton]) h0 (λr hr=>by rw[vK];exact h r hr);generalize hX:mJ (cH p os) p.length (List.replicate p.length 0++[t])=X at e1 e2 e3;have hP:ox (cH p os) p.length t=X.take p.length:=by unfold ox;rw[hX]
 have hy:∀c,c<p.length->xf X c=(X.take p.length).getD c 0:=λc hc=>by
  show X.getD c 0=_;rw[getD_eq_getElem?_getD,getD_eq_getElem?_getD,List.getElem?_take,if_pos hc]
 have et:X.getD p.length 0=t:=by
  rw[e2];have:=congrFun (vK p.length t) p.length;have e:(List.replicate p.length 0++[t]).getD p.length 0=put (xf (List.replicate (p.length+1) 0)) p.length t p.length:=this;rw[e];unfold put;rw[if_pos rfl]
 rw[hP];refine⟨by rw[length_take,e1];omega,λo ho=>?_,?_⟩
 ·obtain⟨i,hi,e⟩:=List.getElem_of_mem ho;obtain⟨r,hr,hR⟩:=ze hl hi;have eo:os.getD i (.eq,[],0)=o:=by rw[getD_eq_getElem?_getD,getElem?_eq_getElem hi,e];rfl
  have:=Fy hR hy (by rw[eo];exact hl o ho) (e3 r hr);rw[eo]at this;exact this
 ·have hs:=e3 (eX p os.length) (by unfold bh;simp);obtain⟨M,mp,a1,a2,b1,_⟩:=(yP (p:=p) os.length).ex;unfold Hd at hs;have hk:(aG p.length (eX p os.length)).kd=.eq:=rfl;rw[hk]at hs;have sW:vl p.length (aG p.length (eX p os.length)) (xf X)=(aG p.length (eX p os.length)).b:=hs;rw[b1]at sW;have ev:vl p.length (aG p.length (eX p os.length)) (xf X)=(-M)*bI p (X.take p.length)+M*t:=by
   unfold vl bI;show sm p.length _+(aG p.length (eX p os.length)).a p.length*xf X p.length=_;rw[a2,<- bw,aE (g:=λc=>(-M)*(p.getD c 0*(X.take p.length).getD c 0)) (λc hc=>by rw[a1 c hc,hy c hc];grind)];show _+M*X.getD p.length 0=_;rw[et]
  rw[ev]at sW;have:M*(bI p (X.take p.length)-t)=0:=by grind
  rcases mul_eq_zero.mp this with z|z<;>grind
theorem Mp(hl:∀o∈os,o.2.1.length=p.length)(hn:never p.length (aY p os)=none)(hu:∀s v,oT (endOf p.length (aY p os) 1)=some (s,v)->t<=v/\(s=true->t<v))(hb:∀s v,pP (endOf p.length (aY p os) (-1))=some (s,v)->v<=t/\(s=true->v<t)):
  ∀r∈aY p os,Hd p.length (put (xf (List.replicate (p.length+1) 0)) p.length t) (aG p.length r):=by
 intro r hr;have T:=qj (n:=p.length) (j:=p.length) (rows:=aY p os) (x:=List.replicate (p.length+1) 0) (by rw[length_replicate]) (le_refl _) (vJ _ _);have Bt:=qk (n:=p.length) (j:=p.length) (rows:=aY p os) (x:=List.replicate (p.length+1) 0) (by rw[length_replicate]) (le_refl _) (vJ _ _);have mem:aG p.length r∈(aY p os).map (aG p.length):=mem_map.mpr ⟨r,hr,rfl⟩;have Qm:gX p.length (aY p os)=none:=by
  unfold never at hn;cases h:gX p.length (aY p os)with
  |none=>rfl
  |some w=>rw[h]at hn;cases hn
 by_cases h0:ent r p.length=0
 ·have a0:(aG p.length r).a p.length=0:=cA.mpr h0;have hf:cX r.1 (ent r (p.length+1):Rat)=false:=by
   unfold gX at Qm;rw[Option.map_eq_none_iff]at Qm;have:=List.find?_eq_none.mp Qm r hr;cases hz:cX r.1 (ent r (p.length+1):Rat)with
   |false=>rfl
   |true=>rw[hz]at this;exact absurd (by simp[h0]) this
  rw[Ae (le_refl _) a0];have hv:vl p.length (aG p.length r) (xf (List.replicate (p.length+1) 0))=0:=gA λc _=>by
   show _*(List.replicate (p.length+1) (0:Rat)).getD c 0=0;rw[vJ];grind
  unfold Hd;rw[hv];show rel r.1 0 (ent r (p.length+1):Rat);generalize (ent r (p.length+1):Rat)=b at hf;cases hk:r.1 with
  |eq=>rw[hk]at hf;have:=of_decide_eq_false hf;show 0=b;grind
  |le=>rw[hk]at hf;have:=of_decide_eq_false hf;show 0<=b;grind
  |lt=>
   rw[hk]at hf;have Ab:(decide (b<0) || decide (b=0))=false:=hf;rw[Bool.or_eq_false_iff,decide_eq_false_iff_not,decide_eq_false_iff_not]at Ab;show 0<b;grind
 ·
  have up:isUp (aG p.length r) p.length->t<=Nm p.length (aG p.length r) (xf (List.replicate (p.length+1) 0)) p.length/\(r.1=.lt->t<Nm p.length (aG p.length r) (xf (List.replicate (p.length+1) 0)) p.length):=by
   intro hi;cases hg:oT (endOf p.length (aY p os) 1)with
   |none=>exact absurd hi (T.none hg _ mem)
   |some g=>
    obtain⟨s,v⟩:=g;obtain⟨h1,h2⟩:=(T.some s v hg).2 _ mem hi;obtain⟨h3,h4⟩:=hu s v hg;refine⟨by grind,λe=>?_⟩;by_cases z:Nm p.length (aG p.length r) (xf (List.replicate (p.length+1) 0)) p.length=v
    ·have:=h4 (h2 e z);grind
    ·grind
  have lo:pG (aG p.length r) p.length->Nm p.length (aG p.length r) (xf (List.replicate (p.length+1) 0)) p.length<=t/\(r.1=.lt->Nm p.length (aG p.length r) (xf (List.replicate (p.length+1) 0)) p.length<t):=by
   intro hi;cases hg:pP (endOf p.length (aY p os) (-1))with
   |none=>exact absurd hi (Bt.none hg _ mem)
   |some g=>
    obtain⟨s,v⟩:=g;obtain⟨h1,h2⟩:=(Bt.some s v hg).2 _ mem hi;obtain⟨h3,h4⟩:=hb s v hg;refine⟨by grind,λe=>?_⟩;by_cases z:Nm p.length (aG p.length r) (xf (List.replicate (p.length+1) 0)) p.length=v
    ·have:=h4 (h2 e z);grind
    ·grind
  have a0:(aG p.length r).a p.length≠0:=λz=>h0 (cA.mp z);unfold Hd;by_cases hp:0<(aG p.length r).a p.length
  ·cases hk:r.1 with
   |eq=>
    have jK:(aG p.length r).kd=.eq:=hk;rw[jK];have a:=(up (.inl hp)).1;have b:=(lo (.inr ⟨hp,hk⟩)).1;exact(pN (le_refl _) a0).mpr (by grind)
   |le=>
    have jK:(aG p.length r).kd=.le:=hk;rw[jK];exact(Dv (le_refl _) hp).mpr (up (.inl hp)).1
   |lt=>
    have jK:(aG p.length r).kd=.lt:=hk;rw[jK];exact(Du (le_refl _) hp).mpr ((up (.inl hp)).2 hk)
  ·have lP:(aG p.length r).a p.length<0:=by grind
   cases hk:r.1 with
   |eq=>
    have jK:(aG p.length r).kd=.eq:=hk;rw[jK];have a:=(up (.inr ⟨lP,hk⟩)).1;have b:=(lo (.inl lP)).1;exact(pN (le_refl _) a0).mpr (by grind)
   |le=>
    have jK:(aG p.length r).kd=.le:=hk;rw[jK];exact(lo_le (le_refl _) lP).mpr (lo (.inl lP)).1
   |lt=>
    have jK:(aG p.length r).kd=.lt:=hk;rw[jK];exact(Ea (le_refl _) lP).mpr ((lo (.inl lP)).2 hk)
theorem y8(hl:∀o∈os,o.2.1.length=n)(ha:S2 os ws)(hx:∀o∈os,cF o x):sm n (λc=>iY os ws c*x.getD c 0)<=qt os ws/\(DC os ws->sm n (λc=>iY os ws c*x.getD c 0)<qt os ws):=by
 have at':∀i,i<os.length->os.getD i (.eq,[],0)∈os:=λi hi=>by
  rw[getD_eq_getElem?_getD,getElem?_eq_getElem hi];exact getElem_mem _
 have hw:∀i,i<os.length->bI (os.getD i (.eq,[],0)).2.1 x=sm n λc=>kv os i c*x.getD c 0:=λi hi=>by
  unfold bI;rw[hl _ (at' i hi)];rfl
 have le:∀i,i<os.length->ws.getD i 0*bI (os.getD i (.eq,[],0)).2.1 x<=ws.getD i 0*nD os i:=λi hi=>by
  have hh:=hx _ (at' i hi);unfold cF at hh;have nn:=ha.nn i hi;unfold knd at nn;unfold nD;cases hk:(os.getD i (.eq,[],0)).1 with
  |eq=>rw[hk]at hh;rw[show bI (os.getD i (.eq,[],0)).2.1 x=_ from hh];exact Rat.le_refl
  |le=>
   rw[hk]at hh;exact Rat.mul_le_mul_of_nonneg_left hh (nn (by rw[hk];simp))
  |lt=>
   rw[hk]at hh;exact Rat.mul_le_mul_of_nonneg_left (le_of_lt hh) (nn (by rw[hk];simp))
 have BP:sm os.length (λi=>ws.getD i 0*bI (os.getD i (.eq,[],0)).2.1 x)=sm n λc=>iY os ws c*x.getD c 0:=by
  rw[aE (g:=λi=>sm n λc=>ws.getD i 0*kv os i c*x.getD c 0) (λi hi=>by
   rw[hw i hi,<- bw];exact aE λc _=>by grind),rP]
  refine aE λc _=>?_;unfold iY;rw[aE (g:=λi=>x.getD c 0*(ws.getD i 0*kv os i c)) (λi _=>by grind),bw];grind
 refine⟨by rw[<- BP];exact DF le,fun⟨i,hi,hk,hp⟩=>?_⟩;rw[<- BP];refine KJ le ⟨i,hi,?_⟩;have hh:=hx _ (at' i hi);unfold cF at hh;unfold knd at hk;rw[hk]at hh;exact Rat.mul_lt_mul_of_pos_left hh hp
theorem xq{s:Rat}{st:Bool}(hl:∀o∈os,o.2.1.length=p.length)(P:RE p os ws s b st)(hx:∀o∈os,cF o x):s*bI p x<=b/\(st=true->s*bI p x<b):=by
 obtain⟨h1,h2⟩:=y8 hl P.vw hx;have e:sm p.length (λc=>iY os ws c*x.getD c 0)=s*bI p x:=by
  unfold bI;rw[<- bw];exact aE λc hc=>by rw[P.parts c hc];grind
 rw[e,P.bd]at h1 h2;exact⟨h1,λz=>h2 (P.st z)⟩
def mB (g:Option (Bool×Rat)) (t:Rat):Prop:=∀s v,g=some (s,v)->t<=v/\(s=true->t<v)
def jZ (g:Option (Bool×Rat)) (t:Rat):Prop:=∀s v,g=some (s,v)->v<=t/\(s=true->v<t)
abbrev nN (p:List Rat) (os:List Ol):Option (Bool×Rat):=oT (endOf p.length (aY p os) 1)
abbrev mZ (p:List Rat) (os:List Ol):Option (Bool×Rat):=pP (endOf p.length (aY p os) (-1))
theorem Ob(hl:∀o∈os,o.2.1.length=p.length)(hn:never p.length (aY p os)=none)(t:Rat):(∃x:List Rat,x.length=p.length/\(∀o∈os,cF o x)/\bI p x=t)↔mB (nN p os) t/\jZ (mZ p os) t:=by
 constructor
 ·rintro⟨x,_,hx,rfl⟩;constructor
  ·intro s v h;cases h1:endOf p.length (aY p os) 1 with
   |none=>unfold nN at h;rw[h1]at h;cases h
   |some b=>
    unfold nN at h;rw[h1]at h;cases h;have:=xq hl (sF hl (.inl rfl) h1) hx;rw[show((1:Int):Rat)=1 from rfl,Rat.one_mul]at this;exact this
  ·intro s v h;cases h1:endOf p.length (aY p os) (-1)with
   |none=>unfold mZ at h;rw[h1]at h;cases h
   |some b=>
    unfold mZ at h;rw[h1]at h;cases h;have:=xq hl (sF hl (.inr rfl) h1) hx;rw[show((-1:Int):Rat)=-1 from rfl]at this;refine⟨by grind,λz=>?_⟩;have:=this.2 z;grind
 ·rintro⟨hu,hb⟩;obtain⟨h1,h2,h3⟩:=Ja hl (Mp hl hn hu hb);exact⟨_,h1,h2,h3⟩
theorem Js(hl:∀o∈os,o.2.1.length=p.length)(hn:never p.length (aY p os)=some ws)(x:List Rat):¬ ∀o∈os,cF o x:=λhx=>by
 obtain⟨h1,h2,h3⟩:=Bo hl hn;obtain⟨a,b⟩:=y8 hl h1 hx;have e:sm p.length (λc=>iY os ws c*x.getD c 0)=0:=gA λc hc=>by rw[h2 c hc,Rat.zero_mul]
 rw[e]at a b;rcases h3 with h3|⟨h3,h4⟩
 ·grind
 ·have:=b h4;grind
theorem jZ.up{l:Option (Bool×Rat)}{u:Rat}(h:jZ l t)(hu:t<=u):jZ l u:=λs v e=>by
 obtain⟨a,b⟩:=h s v e;exact⟨by grind,λz=>by have:=b z;grind⟩
end
end FM
namespace L3
noncomputable section
open PySem PySem.Spec PyProof.Rows L2
open PySem.W (Dat kqdOk)
def Qy (f:HF):ar->Option (Bool×ar):=λΓ=>(f Γ).bind λp=>(mC p.1).map λk=>(k,p.2)
def Lx (f:ar->Option (Bool×ar)):ar->Option (Bool×ar):=λΓ=>(f Γ).map λp=>(!p.1,p.2)
variable {ha:HF} {X:Cx} {a:Expr} {pos:Pos}
theorem DU(pa:QH X a ha)(he:∀whole,isTrue a X.env whole=(do let v <- whole;standAt a.pos;holding [v] (truthy v)):=by intro _;rfl):vB X a (Qy ha):=⟨kM (zk pa.o he) λσ H Q aM=>by
 obtain⟨af,Av,pn,aC,Γ,ad,d,aj,G,hf,q⟩:=aM;obtain⟨⟨dv,Γ1⟩,e1,hf⟩:=bind_some hf;obtain⟨k,e2,hf⟩:=aT hf;cases hf;exact⟨af,Av,pn,aC,Γ,ad,_,Γ1,G,e1,λv H' fI G' r=>⟨_,FC r e2,q H' fI G'⟩⟩⟩
variable {ht:ar->Option (Bool×ar)}
theorem J1(pa:vB X a ht):vB X (.UnaryOp .Not a pos) (Lx ht):=⟨kM (Gf pa.o) λσ H Q aM=>by
 obtain⟨af,Av,pn,aC,Γ,ad,d,aj,G,hf,q⟩:=aM;obtain⟨⟨k,Γ1⟩,e1,hf⟩:=aT hf;cases hf;exact⟨af,Av,pn,aC,Γ,ad,_,Γ1,G,e1,λH' fI G'=>q H' fI G'⟩⟩
open PySem PySem.Spec PyProof.Rows L2
open PySem.W (Dat kqdOk)
variable {gb:ar->Option Fl} {hI:ar->Option (List Dat×ar)} {gt:Dat->Option cI}
def DK (gt:Dat->Option cI) (gb:ar->Option Fl) (hI:ar->Option (List Dat×ar)):ar->Option Fl:=λΓ=>(hI Γ).bind λp=>forL gt gb p.1 p.2
variable {iter tg:Expr} {body:List Stmt}
theorem xl(hp:PassesOwn (model X.prog X.w) X.A X.env X.xe)(hc:X.calm=true)(hi:LY X tg iter hI)(hg:QG X tg (fW X.K gt))(hb:hZ X body gb)(hs:∀x,foldedSetIterable iter X.env x=pure x:=by intro _;rfl):dY X (.For tg iter body [] pos) (DK gt gb hI):=⟨bM (qC hp hc hi.o hg.o hb.o hs) λD σ H aM=>by
 obtain⟨af,Av,pn,aC,Γ,fl,⟨ad,G⟩,hf,q⟩:=aM;obtain⟨⟨ds,Γ1⟩,e1,hf⟩:=bind_some hf;exact⟨af,Av,pn,aC,Γ,ad,ds,Γ1,G,e1,λJ xs j5 H1 eM G1 rx ov=>vc ov G1 rx hf q⟩⟩
def JM (h:HF):ar->Option (List Dat×ar):=λΓ=>(h Γ).bind λp=>(dE p.1).map λaq=>(aq,p.2)
theorem J0(h:QH X iter ha):LY X tg iter (JM ha):=⟨mx (oz h.o) λσ H R aM=>by
 obtain⟨af,Av,pn,aC,Γ,ad,aq,aj,G,hf,q⟩:=aM;obtain⟨⟨d,Γ1⟩,e1,hf⟩:=bind_some hf;obtain⟨its',e2,hf⟩:=aT hf;obtain⟨h1,h2⟩:=Prod.mk.inj hf;subst h1 h2;refine⟨af,Av,pn,aC,Γ,ad,d,Γ1,G,e1,λx H1 eM G1 r=>?_⟩;dsimp only at e2;cases d with
 |list dH=>
  cases e2;obtain⟨a,xs,rfl,hq,rs⟩:=r.fq;exact⟨a,rfl,.inl ⟨⟨xs,hq.sq⟩,q _ [_] [_] H1 eM G1 (.cons r .nil) nt.s⟩⟩
 |tuple dH=>
  cases e2;obtain⟨a,xs,rfl,hq,rs⟩:=r.ff;exact⟨a,rfl,.inr ⟨⟨xs,hq.sq⟩,q _ [_] [_] H1 eM G1 (.cons r .nil) pf.s⟩⟩
 |_=>cases e2⟩
open PySem PySem.Spec PyProof.Rows L2
open PySem.W (Dat kqdOk)
variable {σ:L2.St} {Γ:ar} {pn:Option Addr} {Av:dA} {ad:Nat->Addr} {af H:Hp} {aC:Hid} {K:Fg} {i:Nat} {ds:List Dat}
theorem GA.qa(G:GA K af Av pn aC H σ Γ ad)(hi:Γ[i]?=some (some (.own ds))):GA K af Av pn aC H σ (Γ.set i (some (.a8 (.list ds)))) ad:=by
 obtain⟨xs,a1,a2,a3,a4⟩:=G.own i ds hi;have na:¬bz Av (Γ.set i (some (.a8 (.list ds)))) ad (ad i):=by
  rintro(z|⟨j,s,e,m,r⟩)
  ·obtain⟨o,ho⟩:=G.fH _ z;rw[a4]at ho;cases ho
  ·rcases aN e with⟨_,q⟩|⟨ne,q⟩
   ·cases q;cases m
   ·exact ne (G.inj j i s (.own ds) q hi m rfl r)
 refine⟨G.same,G.fH,by rw[length_set];exact G.len,λj d' h=>?_,λj dH h=>?_,λj k s t h1 h2 m1 m2 e=>?_,λp hp=>(G.aC p hp).weak bz.fR,λa dH e h=>?_,λj O dH h=>?_⟩
 ·rcases aN h with⟨e,q⟩|⟨e,q⟩
  ·subst e;cases q;exact⟨_,a1,.lst (.inl ⟨.inl a2,na⟩) (a3.weak bz.fR)⟩
  ·obtain⟨u,a,b⟩:=G.a8 j d' q;exact⟨u,a,b.weak bz.fR⟩
 ·rcases aN h with⟨e,q⟩|⟨e,q⟩
  ·cases q
  ·obtain⟨xs,a,b,c,e'⟩:=G.own j dH q;exact⟨xs,a,b,c.weak bz.fR,e'⟩
 ·rcases aN h1 with⟨_,q⟩|⟨_,q1⟩
  ·cases q;cases m1
  rcases aN h2 with⟨_,q⟩|⟨_,q2⟩
  ·cases q;cases m2
  exact G.inj j k s t q1 q2 m1 m2 e
 ·rcases aN h with⟨_,q⟩|⟨_,q⟩
  ·cases q
  ·exact G.pin a dH e q
 ·rcases aN h with⟨_,q⟩|⟨_,q⟩
  ·cases q
  ·obtain⟨xs,a,b,c,e'⟩:=G.obj j O dH q;exact⟨xs,a,b,c.weak bz.fR,e'⟩
def nZ (i:Nat) (Γ:ar):ar:=match Γ[i]? with
 |some (some (.own ds))=>Γ.set i (some (.a8 (.list ds)))
 |_=>Γ
theorem GA.nZ(G:GA K af Av pn aC H σ Γ ad)(i:Nat):GA K af Av pn aC H σ (L3.nZ i Γ) ad:=by
 unfold L3.nZ;split
 ·rename_i ds hi;exact G.qa hi
 ·exact G
open PySem PySem.Spec PyProof.Rows L2
open PySem.W (Dat kqdOk)
def f7 (is:List Nat) (Γ:ar):ar:=is.foldl (λΓ i=>nZ i Γ) Γ
theorem GA.f7{K:Fg}{af H:Hp}{Av:dA}{pn:Option Addr}{aC:Hid}{σ:L2.St}{ad:Nat->Addr}:∀(is:List Nat) {Γ:ar},GA K af Av pn aC H σ Γ ad->GA K af Av pn aC H σ (L3.f7 is Γ) ad
 |[],_,G=>G
 |i::is,_,G=>GA.f7 is (G.nZ i)
variable {h:HF} {e:Expr}
theorem m6(is:List Nat)(pe:QH X e h):dY X (.Return (some e) pos) (λΓ=>oY h (f7 is Γ)):=⟨bM (zv pe.o) λD σ H ⟨af,Av,pn,aC,Γ,fl,⟨ad,G⟩,hf,q⟩=>⟨af,Av,pn,aC,f7 is Γ,fl,⟨ad,G.f7 is⟩,hf,q⟩⟩
open PySem PySem.Spec PyProof.Rows L2
open PySem.W (Dat)
def uW:List Dat->Option (List Int)
 |[]=>some []
 | .int n::r=>(uW r).map (n::·)
 |_=>none
theorem tT:∀{ds:List Dat} {ns:List Int},uW ds=some ns->ds=ns.map .int
 |[],ns,h=>by cases h;rfl
 | .int n::r,ns,h=>by
  obtain⟨m,e,h⟩:=aT (show(uW r).map (n::·)=some ns from h);subst h;rw[tT e];rfl
theorem aB.OY{K:Fg}{H:Hp}{Av:dA}:∀{ns:List Int} {xs:List V},aB K H Av xs (ns.map .int)->xs=ns.map .int
 |[],xs,h=>by cases h;rfl
 |n::r,xs,h=>by
  cases h with
  |cons a b=>rw[a.d7,aB.OY b];rfl
structure iV (H H2:Hp) (as:List Addr) (jH:List (List Int)):Prop where
 nd:as.Nodup
 new:∀a∈as,H a=none
 len:as.length=jH.length
 at':∀(j:Nat) (a:Addr) (ps:List Int),as[j]?=some a->jH[j]?=some ps->H2 a=some (.lst (ps.map .int))
variable {H2:Hp} {as:List Addr} {jH:List (List Int)} {a:Addr}
theorem iV.ob(h:iV H H2 as jH)(ha:a∈as):∃o,H2 a=some o:=by
 obtain⟨j,e⟩:=List.mem_iff_getElem?.mp ha;have hl:=f6 e;exact⟨_,h.at' j a _ e (getElem?_eq_getElem (by rw[<- h.len];exact hl))⟩
variable {H1:Hp}
theorem jI(s:aQ H H1)(h:H1 a=none):H a=none:=by
 cases e:H a with
 |none=>rfl
 |some o=>rw[s a o e]at h;cases h
def oj (K:Fg) (f:ax->Option (List (List Int))):TE:=λσ H Q=>∃Av ρ jH,fJ H Av/\dS K H Av σ ρ/\f ρ=some jH/\∀(H2:Hp) (p:Addr) (as:List Addr),aQ H H2->iV H H2 as jH->H2 p=none->Q (.ref p) (upd H2 p (.lst (as.map .ref)))
theorem iV.old(s:aQ H H1)(h:iV H1 H2 as jH):iV H H2 as jH:=⟨h.nd,λa ha=>jI s (h.new a ha),h.len,h.at'⟩
theorem iV.grow{H3:Hp}(s:aQ H2 H3)(h:iV H H2 as jH):iV H H3 as jH:=⟨h.nd,h.new,h.len,λj a ps e1 e2=>s _ _ (h.at' j a ps e1 e2)⟩
theorem iV.nil:iV H H2 [] []:=⟨nodup_nil,(λa ha=>absurd ha not_mem_nil),rfl,(λj a ps e _=>by rw[List.getElem?_nil]at e;cases e)⟩
variable {p:Addr}
theorem iV.snoc(h:iV H H2 as jH)(s:aQ H H2){ps:List Int}(hp:H2 p=none):iV H (upd H2 p (.lst (ps.map .int))) (as++[p]) (jH++[ps]):=by
 have np:p∉as:=λha=>by
  obtain⟨o,e⟩:=h.ob ha;rw[hp]at e;cases e
 refine⟨?_,λa ha=>?_,by rw[length_append,length_append,h.len];rfl,λj a qs e1 e2=>?_⟩
 ·rw[List.nodup_append];exact⟨h.nd,by simp,λa ha b hb e=>np (by rw[mem_singleton.mp hb]at e;rw[<- e];exact ha)⟩
 ·rcases mem_append.mp ha with ha|ha
  ·exact h.new a ha
  ·rw[mem_singleton.mp ha];exact jI s hp
 ·by_cases hj:j<as.length
  ·rw[getElem?_append_left hj]at e1;rw[getElem?_append_left (by rw[<- h.len];exact hj)]at e2;have z:=h.at' j a qs e1 e2;rw[bB (bp z hp)];exact z
  ·have hl:=f6 e1;rw[length_append,length_singleton]at hl;have ej:j=as.length:=by omega
   subst ej;rw[getElem?_append_right (le_refl _),sub_self]at e1;rw[h.len,getElem?_append_right (le_refl _),sub_self]at e2;cases e1;cases e2;exact dC
def vn (gt:Dat->Option cI) (fe:ax->Option (List Dat)) (ik:ax):List Dat->Option (List (List Int))
 |[]=>some []
 |d::r=>(gt d).bind λas=>(fe (gQ ik as)).bind λds=>(uW ds).bind λps=>(vn gt fe ik r).map (ps::·)
def ve (aD:List (Option Nat)) (gt:Dat->Option cI) (fe:ax->Option (List Dat)) (fi:ax->Option (List Dat)):ax->Option (List (List Int)):=λρ=>(fi ρ).bind λds=>if ds.length<sizeLine then vn gt fe (dh aD ρ) ds else none
variable {fe fi:ax->Option (List Dat)}
theorem Mo{aD:List (Option Nat)}(ht:iU gt aD):∀σ H Q,oj K (ve aD gt fe fi) σ H Q->ni aD (KA K fi) (fW K gt) (iC K fK) (ko K fe) σ H Q:=by
 rintro σ H Q ⟨Av,ρ,out,hA,hE,hf,q⟩;obtain⟨ds,e1,hf⟩:=bind_some hf;split at hf
 ·rename_i hz;refine⟨Av,ρ,ds,hA,hE,e1,λJ xs j5 H1 s1 r ov=>?_⟩;refine⟨λi m ys H2=>m=ds.length-i/\i<=ds.length/\aQ H1 H2/\∃as o1 o2,ys=as.map .ref/\iV H H2 as o1/\o1.length<=i/\vn gt fe (dh aD ρ) (ds.drop i)=some o2/\out=o1++o2,
   ⟨_,rfl,zero_le _,aQ.refl _,[],[],out,rfl,.nil,le_refl _,by rw[drop_zero];exact hf,rfl⟩,?_⟩
  rintro i m ys H2 ⟨rfl,hi,s2,as,o1,o2,rfl,ro,hl,hc,rfl⟩;refine⟨by rw[length_map,ro.len];omega,?_⟩;have rx:=r.same s2;cases gf:ds[i]? with
  |none=>
   have hle:ds.length<=i:=List.getElem?_eq_none_iff.mp gf;rw[drop_eq_nil_of_le hle]at hc;cases hc;refine .inl ⟨(ov i H2 _ rx).1 hle,λD hD=>q H2 D as (s1.trans s2) (by rw[append_nil];exact ro) hD⟩
  |some di=>
   have dw:=f6 gf;rw[drop_cons gf]at hc;obtain⟨LS,a1,hc⟩:=bind_some (show(gt di).bind _=some o2 from hc);obtain⟨dv,a3,hc⟩:=bind_some hc;obtain⟨ps,a5,hc⟩:=bind_some hc;obtain⟨o3,a4,hc⟩:=aT hc;subst hc;obtain⟨go,yl⟩:=(ov i H2 _ rx).2 di gf;refine .inr ⟨go,λy H' hy=>?_⟩;obtain⟨sH,ry⟩:=yl y H' (hA.same (s1.trans s2)) hy;refine⟨Av,di,LS,ry,a1,λws hw=>?_⟩;have cs:∀p∈LS,(cO aD σ)[p.1]?=some none:=λp hp=>by
    unfold cO;rw[getElem?_map,ht di LS a1 p hp];rfl
   have A2:=hA.same (s1.trans (s2.trans sH));have E2:dS K H' Av (nQ (cO aD σ) ws) (gQ (dh aD ρ) LS):=dS.fX hw (by unfold cO dh;rw[length_map,length_map]) ((hE.same (s1.trans (s2.trans sH))).aD aD);refine⟨dZ.fX hw cs (dZ.refl _),Av,_,true,A2,E2,rfl,λH3 s3=>?_⟩;show(if true=true then _ else _);rw[if_pos rfl];refine⟨Av,_,dv,A2.same s3,E2.same s3,a3,λH4 p WE s4 hp rv=>?_⟩;rw[tT a5]at rv;have ex:=rv.OY;subst ex;have s5:aQ H2 H4:=sH.trans (s3.trans s4);refine⟨ds.length-(i+1),by omega,rfl,by omega,(s2.trans s5).trans (bK hp _),as++[p],o1++[ps],o3,by rw[map_append];rfl,(ro.grow s5).snoc ((s1.trans s2).trans s5) hp,by rw[length_append,length_singleton];omega,a4,by rw[append_assoc];rfl⟩
 ·cases hf
variable {elt:Expr} {ifs:List Expr} {scope:Scope} {cl:List (Str×Addr)} {N':List Str}
theorem Jf{aD:List (Option Nat)}(hc:X.calm=true)(B:nK X scope cl N' aD)(hi:V2 X tg iter fi)(hg:∀C aw af ex,PG (fP X scope cl N' C aw af ex) tg (fW X.K gt))(ht:∀C aw af ex,rG (fP X scope cl N' C aw af ex) ifs (iC X.K fK))(he:∀C aw af ex,PE (fP X scope cl N' C aw af ex) elt (ko X.K fe))(hT:iU gt aD)(hs:∀x,foldedSetIterable iter X.env x=pure x:=by intro _;rfl):PE X (.ListComp elt [⟨tg,iter,ifs,0⟩] scope pos) (oj X.K (ve aD gt fe fi)):=bo (w9 hc B hi hg ht he hs) (Mo hT)
variable {H₀':Hp} {Av':dA}
theorem GA.re{H':Hp}{σ:L2.St}(G:GA K af Av pn aC H σ Γ ad)(s:aQ H₀' H')(t:fJ H₀' Av')(k:lK H (bz Av Γ ad) H' (bz Av' Γ ad))(g:aQ H H')(n:∀(i:Nat) (z:Slot),Γ[i]?=some (some z)->z.mt=true->H₀' (ad i)=none):GA K H₀' Av' pn aC H' σ Γ ad:=by
 refine⟨s,t,G.len,λi d h=>?_,λi ds h=>?_,G.inj,λp hp=>(G.aC p hp).mono k,G.pin,λi O ds h=>?_⟩
 ·obtain⟨v,a,r⟩:=G.a8 i d h;exact⟨v,a,r.mono k⟩
 ·obtain⟨xs,a,b,r,c⟩:=G.own i ds h;exact⟨xs,a,g _ _ b,r.mono k,n i _ h rfl⟩
 ·obtain⟨xs,a,b,r,c⟩:=G.obj i O ds h;exact⟨xs,a,g _ _ b,r.mono k,n i _ h rfl⟩
theorem GA.take{σ:L2.St}(G:GA K af Av pn aC H σ Γ ad){ns:List Int}(i:Nat)(gM:i≠0)(hp:af p=some (.lst (ns.map .int)))(ha:Av p)(i4:H₀' p=none)(s:aQ H₀' af)(t:fJ H₀' Av')(k:∀b,Av' b->Av b):
  GA K H₀' Av' pn aC H (σ.set i (some (.ref p))) (Γ.set i (some (.own (ns.map .int)))) (λj=>if j=i then p else ad j):=by
 have ne:∀(j:Nat) (z:Slot),Γ[j]?=some (some z)->z.mt=true->ad j≠p:=λj z h m e=>by
  have:=(G.mt h m).2;rw[e,hp]at this;cases this
 have kp:lK H (bz Av Γ ad) H (bz Av' (Γ.set i (some (.own (ns.map .int)))) (λj=>if j=i then p else ad j)):=by
  intro b o h n;refine⟨h,?_⟩;rintro(z|⟨j,es,e,m,r⟩)
  ·exact n (.inl (k b z))
  ·dsimp only at r;rcases aN e with⟨ej,q⟩|⟨ej,q⟩
   ·rw[if_pos ej]at r;exact n (.inl (r▸ha))
   ·rw[if_neg ej]at r;exact n (.inr ⟨j,es,q,m,r⟩)
 refine⟨s.trans G.same,t,by rw[length_set,length_set];exact G.len,λj d h=>?_,λj ds h=>?_,λj l z1 z2 h1 h2 m1 m2 e=>?_,λq hq=>(G.aC q hq).mono kp,λa ds e h=>?_,λj O ds h=>?_⟩
 ·rcases aN h with⟨ej,q⟩|⟨ej,q⟩
  ·cases q
  ·obtain⟨v,a,r⟩:=G.a8 j d q;exact⟨v,by rw[getElem?_set_ne (Ne.symm ej)];exact a,r.mono kp⟩
 ·have dw:=f6 h;rw[length_set]at dw;rcases aN h with⟨ej,q⟩|⟨ej,q⟩
  ·subst ej;cases q;refine⟨ns.map .int,?_,?_,aB.ints ns,?_⟩
   ·rw[if_pos rfl];exact getElem?_set_self (by rw[G.len];exact dw)
   ·rw[if_pos rfl];exact G.same _ _ hp
   ·rw[if_pos rfl];exact i4
  ·obtain⟨xs,a,b,r,c⟩:=G.own j ds q;rw[if_neg ej];exact⟨xs,by rw[getElem?_set_ne (Ne.symm ej)];exact a,b,r.mono kp,jI s c⟩
 ·rcases aN h1 with⟨e1,q1⟩|⟨e1,q1⟩<;>rcases aN h2 with⟨e2,q2⟩|⟨e2,q2⟩
  ·rw[e1,e2]
  ·rw[if_pos e1,if_neg e2]at e;exact absurd e.symm (ne l z2 q2 m2)
  ·rw[if_neg e1,if_pos e2]at e;exact absurd e (ne j z1 q1 m1)
  ·rw[if_neg e1,if_neg e2]at e;exact G.inj j l z1 z2 q1 q2 m1 m2 e
 ·rw[getElem?_set_ne gM]at h;rw[if_neg (Ne.symm gM)];exact G.pin a ds e h
 ·rcases aN h with⟨ej,q⟩|⟨ej,q⟩
  ·cases q
  ·obtain⟨xs,a,b,r,c⟩:=G.obj j O ds q;rw[if_neg ej];exact⟨xs,by rw[getElem?_set_ne (Ne.symm ej)];exact a,b,r.mono kp,jI s c⟩
def wy (k:Nat) (gb:ar->Option Fl):List (List Int)->ar->Option Fl
 |[],Γ=>some (.nx Γ)
 |ns::r,Γ=>(gb (Γ.set k (some (.own (ns.map .int))))).bind λfl=>match fl with
  | .nx aj=>wy k gb r aj
  | .ct aj=>wy k gb r aj
  | .bk aj=>some (.nx aj)
  | .rt v=>some (.rt v)
  | .rm v aj=>some (.rm v aj)
variable {fp:ax->Option (List (List Int))}
def yr (k:Nat) (gb:ar->Option Fl) (fp:ax->Option (List (List Int))):ar->Option Fl:=λΓ=>(fp (bG Γ)).bind λjH=>wy k gb jH Γ
def sY (af H2:Hp) (p:Addr) (as:List Addr) (i:Nat):Hp:=open Classical in λb=>if b=p then some (.lst (as.map .ref))else if b∈as.drop i then H2 b else af b
def Dk (Av:dA) (as:List Addr) (i:Nat):dA:=λb=>Av b\/b∈as.drop i
theorem Eg:sY af H2 p as i p=some (.lst (as.map .ref)):=if_pos rfl
theorem sA(h:a≠p)(ha:a∈as.drop i):sY af H2 p as i a=H2 a:=(if_neg h).trans (if_pos ha)
theorem uZ(h:a≠p)(ha:a∉as.drop i):sY af H2 p as i a=af a:=(if_neg h).trans (if_neg ha)
variable {x:Str}
theorem J6{px:Pos}(k:Nat)(hN:X.N.Nodup)(hp:PassesOwn (model X.prog X.w) X.A X.env X.xe)(hc:X.calm=true)(hi:PE X iter (oj X.K fp))(hb:Kk X body gb)(xG:k≠0:=by decide)(hk:X.N[k]?=some x:=by rfl)(hx:Loc X.env.scope x:=by first|exact .inl rfl|exact .inr rfl)(hf:X.fn x=true\/X.env.scope.names.lookup x=some .local:=by first|exact .inl rfl|exact .inr rfl|assumption)(hs:∀x,foldedSetIterable iter X.env x=pure x:=by intro _;rfl):V1 X (.For (.Name x px) iter body [] pos) (yr k gb fp):=bM (qC hp hc (oz hi) (Cc hN hk hx hf) hb hs) λD σ H aM=>by
 obtain⟨af,Av,pn,aC,Γ,fl,⟨ad,G⟩,hf,q⟩:=aM;obtain⟨jH,e1,hf⟩:=bind_some hf;refine⟨bz Av Γ ad,bG Γ,jH,G.gu,G.jc,e1,λH2 p as s2 ps cV=>⟨p,rfl,.inl ⟨⟨as.map .ref,.inl (.inl dC)⟩,?_⟩⟩⟩;have Cp:∀{a o},H2 a=some o->a≠p:=λh=>bp h cV;have TL:∀{a},a∈as->a≠p:=λha=>by obtain⟨o,e⟩:=ps.ob ha;exact Cp e
 have s0:aQ af H2:=G.same.trans s2;have sat:∀i,aQ af (sY af H2 p as i):=λi b o h=>by
  have h2:=s0 b o h;by_cases hd:b∈as.drop i
  ·rw[sA (Cp h2) hd];exact h2
  ·rw[uZ (Cp h2) hd];exact h
 have fH:∀i,fJ (sY af H2 p as i) (Dk Av as i):=λi b hb=>by
  rcases hb with hb|hb
  ·obtain⟨o,e⟩:=G.fH b hb;exact⟨o,sat i b o e⟩
  ·obtain⟨o,e⟩:=ps.ob (List.mem_of_mem_drop hb);exact⟨o,by rw[sA (Cp e) hb];exact e⟩
 have G0:GA X.K (sY af H2 p as 0) (Dk Av as 0) pn aC (upd H2 p (.lst (as.map .ref))) σ Γ ad:=by
  refine G.re (λb o h=>?_) (fH 0) (λb o h n=>⟨?_,?_⟩) (s2.trans (bK cV _)) (λi z h m=>?_)
  ·by_cases e:b=p
   ·subst e;rw[Eg]at h;rw[dC];exact h
   ·rw[bB e];by_cases hd:b∈as.drop 0
    ·rw[sA e hd]at h;exact h
    ·rw[uZ e hd]at h;exact s0 b o h
  ·rw[bB (Cp (s2 b o h))];exact s2 b o h
  ·rintro((z|z)|z)
   ·exact n (.inl z)
   ·rw[drop_zero]at z;have:=ps.new b z;rw[h]at this;cases this
   ·exact n (.inr z)
  ·obtain⟨⟨o,e⟩,e0⟩:=G.mt h m;have hd:ad i∉as.drop 0:=λz=>by
    rw[drop_zero]at z;have:=ps.new _ z;rw[e]at this;cases this
   rw[uZ (Cp (s2 _ _ e)) hd];exact e0
 have back:∀{i H σ Γ ad},GA X.K (sY af H2 p as i) (Dk Av as i) pn aC H σ Γ ad->GA X.K af Av pn aC H σ Γ ad:=fun{i H σ Γ ad} G'=>G'.re ((sat i).trans G'.same) G.fH (λb o h n=>⟨h,λz=>n (z.elim (λz=>.inl (.inl z)) .inr)⟩) (aQ.refl _) (λj z h m=>jI (sat i) (G'.mt h m).2);refine⟨λi m σ H=>m=as.length-i/\i<=as.length/\∃Γ,kj X.K (sY af H2 p as i) (Dk Av as i) pn aC H σ Γ/\wy k gb (jH.drop i) Γ=some fl,⟨_,rfl,zero_le _,Γ,⟨ad,G0⟩,by rw[drop_zero];exact hf⟩,?_⟩;rintro i m σ H ⟨rfl,hi,Γ,⟨ad,G'⟩,hf⟩;have dJ:H p=some (.lst (as.map .ref)):=G'.same _ _ Eg;have sq:fk X.K H p (as.map .ref):=.inl (.inl dJ);cases Ak:as[i]? with
 |none=>
  have hle:as.length<=i:=List.getElem?_eq_none_iff.mp Ak;rw[drop_eq_nil_of_le (by rw[<- ps.len];exact hle)]at hf;cases hf;exact .inl ⟨⟨_,sq,by rw[length_map];exact hle⟩,q σ H ⟨ad,back G'⟩⟩
 |some a=>
  have dw:=f6 Ak;have Qx:a∈as.drop i:=by rw[drop_cons Ak];exact mem_cons_self
  obtain⟨ns,Hb⟩:∃ns,jH[i]?=some ns:=⟨_,getElem?_eq_getElem (by rw[<- ps.len];exact dw)⟩;rw[drop_cons Hb]at hf;obtain⟨nC,e2,hf⟩:=bind_some (show(gb (Γ.set k (some (.own (ns.map .int))))).bind _=some fl from hf);have ky:(as.map V.ref)[i]?=some (.ref a):=by rw[getElem?_map,Ak];rfl
  refine .inr ⟨⟨_,_,sq,ky⟩,λbJ H'=>∃aj,kj X.K (sY af H2 p as (i+1)) (Dk Av as (i+1)) pn aC H' bJ aj/\wy k gb (jH.drop (i+1)) aj=some fl,λbJ H' ⟨aj,G',h'⟩=>⟨as.length-(i+1),by omega,rfl,by omega,aj,G',h'⟩,λy H' hy=>?_⟩;obtain⟨eH,ey⟩:=hy;subst eH;have UG:=ey _ sq;rw[ky]at UG;cases UG;have X3:a∉as.drop (i+1):=λz=>by
   have h1:(as.drop i).Nodup:=ps.nd.sublist (List.drop_sublist _ _);rw[drop_cons Ak]at h1;exact(nodup_cons.mp h1).1 z
  have sub:∀b,b∈as.drop (i+1)->b∈as.drop i:=λb hb=>by rw[drop_cons Ak];exact mem_cons_of_mem _ hb
  have Qo:a∈as:=List.mem_of_mem_drop Qx;have G2:=G'.take (Av':=Dk Av as (i+1)) (H₀':=sY af H2 p as (i+1)) k xG (p:=a) (ns:=ns) (by rw[sA (TL Qo) Qx];exact ps.at' i a ns Ak Hb) (.inr Qx) (by rw[uZ (TL Qo) X3];exact jI (G.same) (ps.new a Qo)) (λb o h=>by
   by_cases e:b=p
   ·subst e;rw[Eg]at h ⊢;exact h
   ·by_cases hd:b∈as.drop (i+1)
    ·rw[sA e hd]at h;rw[sA e (sub b hd)];exact h
    ·rw[uZ e hd]at h;exact sat i b o h) (fH (i+1)) (λb hb=>hb.elim .inl λz=>.inr (sub b z))
  refine⟨_,_,pn,aC,_,nC,⟨_,G2⟩,e2,?_⟩;cases nC with
  |nx aj=>exact λcP H2 G2=>⟨aj,G2,hf⟩
  |ct aj=>exact λcP H2 G2=>⟨aj,G2,hf⟩
  |bk aj=>cases hf;exact λcP H2 ⟨lT,G2⟩=>q cP H2 ⟨lT,back G2⟩
  |rt v=>cases hf;exact λv2 H3 s3 r2=>q v2 H3 ((sat (i+1)).trans s3) (r2.weak λ_ z=>.inl z)
  |rm v aj=>cases hf;exact λcP v2 H2 lT G2 r2=>q cP v2 H2 lT (back G2) (r2.weak λ_ z=>z.elim (λz=>.inl (.inl z)) .inr)
def WV (K:Fg) (n:Nat) (F:List Dat->Option (List (List Int))):Sp:=λvs H Q _=>∃Av ds out,fJ H Av/\aB K H Av vs ds/\ds.length=n/\F ds=some out/\∀(H2:Hp) (p:Addr) (as:List Addr),aQ H H2->iV H H2 as out->H2 p=none->Q (.ref p) (upd H2 p (.lst (as.map .ref)))
structure vH (P:Program) (w:World) (K:Fg) (mg:Str->Option Value) (base:Heap) (k:Nat) (x:Str) (ps:List Str) (n:Nat) (F:List Dat->Option (List (List Int))):Prop where
 ex:∃(f:Addr) (fd:FuncData),gn P w K mg base gO k f fd ps (WV K n F)/\mg x=some (.ref f)/\keepIn K (.ref f)=true/\Binds K fd ps []
variable {P:Program} {w:World} {mg:Str->Option Value} {base:Heap} {j k n:Nat} {ps:List Str} {F:List Dat->Option (List (List Int))}
theorem vH.up(D:vH P w K mg base j x ps n F)(h:j<=k):vH P w K mg base k x ps n F:=by
 obtain⟨f,fd,h1,h2⟩:=D.ex;exact⟨f,fd,h1.mono h,h2⟩
def yA (n:Nat) (F:List Dat->Option (List (List Int))) (fs:ax->Option (List Dat)):ax->Option (List (List Int)):=λρ=>(fs ρ).bind λds=>if ds.length=n then F ds else none
variable {es:List Expr}
theorem MU{p:Pos}{fs:ax->Option (List Dat)}(D:vH X.prog X.w X.K X.mg X.base k x ps n F)(hr:cg k X.A)(pa:M1 X (e::es) fs)(hg:Gl X x:=by rfl)(iP:(x==("__debug__" : Str))=false:=by decide)(he:starEach (e::es) X.env=(false,eval e X.env)::starEach es X.env:=by rfl)(dJ:(backTo pos (starEach es X.env)).any (·.1)=false:=by rfl):PE X (.Call (.Name x p) (e::es) [] pos) (oj X.K (yA n F fs)):=by
 obtain⟨f,fd,h1,h2,h3,h4⟩:=D.ex;refine bo (rY h1 hr hg h2 h3 h4 .nil yu pa iP he dJ) λσ H Q ⟨Av,ρ,out,hA,hE,hf,q⟩=>?_;obtain⟨ds,e1,hf⟩:=bind_some hf;split at hf
 ·rename_i hl;exact⟨Av,ρ,ds,hA,hE,e1,λxs H1 s1 r1=>⟨Av,ds,out,hA.same s1,by rw[append_nil];exact r1,hl,hf,λH2 p as s2 r2 hp=>q H2 p as (s1.trans s2) (r2.old s1) hp⟩⟩
 ·cases hf
variable {st:Stmt} {ft:ax->Option Bool} {p1 p2 p3:Pos}
theorem R6{qual:Str}{fa:Addr}{fd:FuncData}{N:List Str}{f1 f2:ax->Option (List (List Int))}(U:nI K x qual st fa fd)(hm:mg x=some (.ref fa))(hB:Binds K fd ps [])(S:fV N ps (aW st))(hn:ps.length=n){c e1 e2:Expr}(hb:df st=[.If c [.Return (some e1) p1] [] p2,.Return (some e2) p3])(hbody:∀(bC:Value) (A:Around) (outer:List Env) (s:Shared) (H:Hp) (E:XK),cg k (A.deeper (envOfC qual (aW st) s.heap.objs.size fa bC))->V4 (gY gO P w K mg base N qual (aW st) fa bC A outer s H E).ly c ft/\PE (gY gO P w K mg base N qual (aW st) fa bC A outer s H E).ly e1 (oj K f1)/\PE (gY gO P w K mg base N qual (aW st) fa bC A outer s H E).ly e2 (oj K f2))(hF:∀ds out,ds.length=n->F ds=some out->∃b,ft (bE (cy N ds))=some b/\(if b=true then f1 (bE (cy N ds))else f2 (bE (cy N ds)))=some out):vH P w K mg base (k+1) x ps n F:=by
 have dJ:ps.length<=N.length:=by have:=congrArg List.length S.pre;rw[length_take]at this;omega
 refine⟨fa,fd,U.ok S (λvs H Q E h=>?_) (λbC A outer s H vs Q E hr h=>?_),hm,U.kp,hB⟩
 ·obtain⟨Av,ds,d,_,r,hl,_⟩:=h;rw[r.length,hl,hn]
 ·obtain⟨Av,ds,out,hA,r,hl,hd,q⟩:=h;obtain⟨ad,G⟩:=tY (K:=K) (N:=N) hA r (by omega);obtain⟨b,Ho,Lu⟩:=hF ds out hl hd;obtain⟨h1,h2,h3⟩:=hbody bC A outer s H E hr;rw[hb];refine⟨_,zu (DW h1 (w4 (qB h2)) Ca) (w4 (qB h3)),Av,bE (cy N ds),b,hA,G.kS,Ho,λH1 s1=>?_⟩;cases b with
  |true=>
   rw[if_pos rfl]at Lu ⊢;exact⟨Av,bE (cy N ds),out,hA.same s1,G.kS.same s1,Lu,λH2 p as s2 r2 hp=>q H2 p as (s1.trans s2) (r2.old s1) hp⟩
  |false=>
   rw[if_neg Bool.false_ne_true]at Lu ⊢;exact⟨Av,bE (cy N ds),out,hA.same s1,G.kS.same s1,Lu,λH2 p as s2 r2 hp=>q H2 p as (s1.trans s2) (r2.old s1) hp⟩
def Ep (f:ax->Option (List Dat)):ax->Option (List (List Int)):=λρ=>(f ρ).bind λds=>(uW ds).map λns=>[ns]
variable {f:ax->Option (List Dat)}
theorem MT(h:PE X e (ko X.K f))(hs:starEach [e] X.env=[(false,eval e X.env)]:=by rfl):PE X (.List [e] pos) (oj X.K (Ep f)):=bo (qH (iZ h mL hs)) λσ H Q aM=>by
 obtain⟨Av,ρ,out,hA,hE,hf,q⟩:=aM;obtain⟨ds,e1,hf⟩:=bind_some hf;obtain⟨ns,e2,hf⟩:=aT hf;subst hf;refine⟨Av,ρ,ds,hA,hE,e1,λH1 p xs s1 hp r1=>⟨Nat.le_of_lt (jA (by show 1<=1000;decide)),λp2 cV=>?_⟩⟩;rw[tT e2]at r1;have ex:=r1.OY;subst ex;exact q _ p2 [p] (s1.trans (bK hp _)) (iV.nil.snoc s1 hp) cV
theorem J3(h:QE X e (ko X.K f))(hs:starEach [e] X.env=[(false,eval e X.env)]:=by rfl):QE X (.List [e] pos) (oj X.K (Ep f)):=⟨MT h.o hs⟩
theorem G7{aD:List (Option Nat)}(hc:X.calm=true)(B:nK X scope cl N' aD)(hi:rF X tg iter fi)(hg:∀C aw af ex,QG (fP X scope cl N' C aw af ex) tg (fW X.K gt))(ht:∀C aw af ex,rE (fP X scope cl N' C aw af ex) ifs (iC X.K fK))(he:∀C aw af ex,QE (fP X scope cl N' C aw af ex) elt (ko X.K fe))(hT:iU gt aD)(hs:∀x,foldedSetIterable iter X.env x=pure x:=by intro _;rfl):QE X (.ListComp elt [⟨tg,iter,ifs,0⟩] scope pos) (oj X.K (ve aD gt fe fi)):=⟨Jf hc B hi.o (λC aw af ex=>(hg C aw af ex).o) (λC aw af ex=>(ht C aw af ex).o) (λC aw af ex=>(he C aw af ex).o) hT hs⟩
theorem J4{p:Pos}{fs:ax->Option (List Dat)}(D:vH X.prog X.w X.K X.mg X.base k x ps n F)(hr:cg k X.A)(pa:kC X (e::es) fs)(hg:Gl X x:=by rfl)(iP:(x==("__debug__" : Str))=false:=by decide)(he:starEach (e::es) X.env=(false,eval e X.env)::starEach es X.env:=by rfl)(dJ:(backTo pos (starEach es X.env)).any (·.1)=false:=by rfl):QE X (.Call (.Name x p) (e::es) [] pos) (oj X.K (yA n F fs)):=⟨MU D hr pa.o hg iP he dJ⟩
theorem G3{px:Pos}(k:Nat)(hN:X.N.Nodup)(hp:PassesOwn (model X.prog X.w) X.A X.env X.xe)(hc:X.calm=true)(hi:QE X iter (oj X.K fp))(hb:hZ X body gb)(xG:k≠0:=by decide)(hk:X.N[k]?=some x:=by rfl)(hx:Loc X.env.scope x:=by first|exact .inl rfl|exact .inr rfl)(hf:X.fn x=true\/X.env.scope.names.lookup x=some .local:=by first|exact .inl rfl|exact .inr rfl|assumption)(hs:∀x,foldedSetIterable iter X.env x=pure x:=by intro _;rfl):dY X (.For (.Name x px) iter body [] pos) (yr k gb fp):=⟨J6 k hN hp hc hi.o hb.o xG hk hx hf hs⟩
def IT (N:List Str) (ft:ax->Option Bool) (f1 f2:ax->Option (List (List Int))) (ds:List Dat):Option (List (List Int)):=(ft (bE (cy N ds))).bind λb=>if b=true then f1 (bE (cy N ds))else f2 (bE (cy N ds))
theorem So(N:List Str)(U:FnAt K mg x st ps){f1 f2:ax->Option (List (List Int))}{c e1 e2:Expr}(hb:df st=[.If c [.Return (some e1) p1] [] p2,.Return (some e2) p3])(h1:N.Nodup->∀(fa:Addr) (bC:Value) (A:Around) (outer:List Env) (s:Shared) (H:Hp) (E:XK),cg k (A.deeper (envOfC x (aW st) s.heap.objs.size fa bC))->i6 (gY gO P w K mg base N x (aW st) fa bC A outer s H E).ly c ft)(h2:N.Nodup->∀(fa:Addr) (bC:Value) (A:Around) (outer:List Env) (s:Shared) (H:Hp) (E:XK),cg k (A.deeper (envOfC x (aW st) s.heap.objs.size fa bC))->QE (gY gO P w K mg base N x (aW st) fa bC A outer s H E).ly e1 (oj K f1))(h3:N.Nodup->∀(fa:Addr) (bC:Value) (A:Around) (outer:List Env) (s:Shared) (H:Hp) (E:XK),cg k (A.deeper (envOfC x (aW st) s.heap.objs.size fa bC))->QE (gY gO P w K mg base N x (aW st) fa bC A outer s H E).ly e2 (oj K f2))(S:fV N ps (aW st):=by exact⟨rfl,rfl,rfl,by decide +kernel,rfl,by decide +kernel,by decide +kernel⟩)(hn:ps.length=n:=by rfl):vH P w K mg base (k+1) x ps n (IT N ft f1 f2):=by
 obtain⟨f,fd,U,hm,hB⟩:=U.ex;exact R6 U hm hB S hn hb (λbC A outer s H E hr=>⟨(h1 S.nd f bC A outer s H E hr).o,(h2 S.nd f bC A outer s H E hr).o,(h3 S.nd f bC A outer s H E hr).o⟩) λds out _ h=>bind_some h
open PySem PySem.Spec PyProof.Rows L2
open PySem.W (Dat kqdOk kqdP kqdPs kqd_lay kqd_eqv)
variable {b a:Expr}
mutual
theorem aS.jS{pins:List (Addr×Obj)}{σ:L2.St}{H:Hp}{s:Shared}{Av:dA}(I:Inv X pins σ H s):∀{v:V} {d:Dat},aS X.K H Av v d->∀u,RelV v u->∃as,Reads s.heap u (kqdP d) as
 |_,_,.bW,u,r=>by cases(show u=Value.none from r);rw[kqdP];exact⟨_,.none⟩
 |_,_,.bl b,u,r=>by cases(show u=Value.bool b from r);rw[kqdP];exact⟨_,.bool b⟩
 |_,_,.int i,u,r=>by obtain⟨t,q⟩:=(show ∃t,u=Value.int i t from r);subst q;rw[kqdP];exact⟨_,.int i t⟩
 |_,_,.str x,u,r=>by obtain⟨t,q⟩:=(show ∃t,u=Value.str x t from r);subst q;rw[kqdP];exact⟨_,.str x t⟩
 |_,_,.tup (a:=a) hq rs,u,r=>by
  cases(show u=Value.ref a from r);obtain⟨aq,rv,⟨o,h1,h2,m,h3⟩,_⟩:=I.tuple hq.sq;obtain⟨as,q⟩:=aB.jS I rs aq rv;rw[kqdP];exact⟨as,.tuple h1 h2 h3 (by simpa using q)⟩
 |_,_,.lst (a:=a) hq rs,u,r=>by
  cases(show u=Value.ref a from r);obtain⟨aq,rv,⟨o,m,h1,h2,_,h3⟩,_⟩:=I.list hq.sq;obtain⟨as,q⟩:=aB.jS I rs aq rv;rw[kqdP];exact⟨_,.list h1 h2 h3 (by simpa using q)⟩
theorem aB.jS {pins:List (Addr×Obj)} {σ:L2.St} {H:Hp} {s:Shared} {Av:dA} (I:Inv X pins σ H s):∀{vs:List V} {ds:List Dat},aB X.K H Av vs ds->∀us,Vals vs us->∃as,ReadsAll s.heap us (kqdPs ds) as
 |_,_,.nil,us,r=>by cases r;rw[kqdPs];exact⟨_,.nil⟩
 |_,_,.cons h t,us,r=>by
  cases r with
  |cons r1 r2=>
   obtain⟨as,q⟩:=aS.jS I h _ r1;obtain⟨bs,p⟩:=aB.jS I t _ r2;rw[kqdPs];exact⟨_,.cons q p⟩
end
def mU (x y:Dat):Option Bool:=if SeqAt.shaped (kqdP x)=true/\SeqAt.shaped (kqdP y)=true then some (PyData.eqv (kqdP x) (kqdP y))else none
def ub (x y:Dat):Option Dat:=(mU x y).map .bool
def E7 (x y:Dat):Option Dat:=(mU x y).map λk=>.bool (!k)
theorem CQ{x y:Dat}{k:Bool}(h:mU x y=some k):SeqAt.shaped (kqdP x)=true/\SeqAt.shaped (kqdP y)=true/\k=PyData.eqv (kqdP x) (kqdP y):=by
 unfold mU at h;split at h
 ·rename_i c;cases h;exact⟨c.1,c.2,rfl⟩
 ·cases h
theorem Nw{x y:Dat}(h1:kqdOk 9 x=true)(h2:kqdOk 9 y=true):mU x y=some (kf x y):=by
 unfold mU;rw[if_pos ⟨jB x h1,jB y h2⟩,sD x y h1 h2]
def OP (K:Fg):R2:=λx y H Q=>∃Av d e k,aS K H Av x d/\aS K H Av y e/\mU d e=some k/\Q (.bl k) H
def OL (K:Fg):R2:=λx y H Q=>∃Av d e k,aS K H Av x d/\aS K H Av y e/\mU d e=some k/\Q (.bl (!k)) H
theorem Gv(hu:X.A.units+64<cLine):dO X (compareOp .Eq) (OP X.K):=by
 intro pins s σ H x y v u Q I rx ry h;obtain⟨Av,d,e,k,r1,r2,hk,q⟩:=h;obtain⟨k1,k2,rfl⟩:=CQ hk;obtain⟨as,ra⟩:=r1.jS I v rx;obtain⟨bs,rb⟩:=r2.jS I u ry;exact eq_dataH ra rb k1 k2 hu ⟨.bl _,H,I,rfl,q⟩
theorem Ph(hu:X.A.units+64<cLine):dO X (compareOp .NotEq) (OL X.K):=by
 intro pins s σ H x y v u Q I rx ry h;obtain⟨Av,d,e,k,r1,r2,hk,q⟩:=h;obtain⟨k1,k2,rfl⟩:=CQ hk;obtain⟨as,ra⟩:=r1.jS I v rx;obtain⟨bs,rb⟩:=r2.jS I u ry;exact ne_dataH ra rb k1 k2 hu ⟨.bl _,H,I,rfl,q⟩
theorem Ci:kh K (OP K) ub:=by
 intro H Av x y dx dy d Q hA rx ry h q;obtain⟨k,e1,rfl⟩:=aT h;exact⟨Av,dx,dy,k,rx,ry,e1,q _ H (aQ.refl H) (.bl _)⟩
theorem N4:kh K (OL K) E7:=by
 intro H Av x y dx dy d Q hA rx ry h q;obtain⟨k,e1,rfl⟩:=aT h;exact⟨Av,dx,dy,k,rx,ry,e1,q _ H (aQ.refl H) (.bl _)⟩
variable {fa fb:ax->Option Dat}
theorem MI(hr:cg k X.A)(ha:QF X a fa)(hb:QF X b fb):QF X (.Compare a [.Eq] [b] pos) (f2 ub fa fb):=⟨oA (Gv hr.units) Ci ha.o hb.o (eB _)⟩
theorem zi(hr:cg k X.A)(ha:QF X a fa)(hb:QF X b fb):i6 X (.Compare a [.Eq] [b] pos) (bY (f2 ub fa fb)):=⟨gD (Gv hr.units) Ci ha.o hb.o (eB _)⟩
theorem J2(hr:cg k X.A)(ha:QF X a fa)(hb:QF X b fb):i6 X (.Compare a [.NotEq] [b] pos) (bY (f2 E7 fa fb)):=⟨gD (Ph hr.units) N4 ha.o hb.o (eB _)⟩
end
end L3
namespace FM
noncomputable section
abbrev En:=Option (Bool×Rat)
variable {v t:Rat}
theorem dU{s:Bool}:mB (some (s,v)) t↔t<=v/\(s=true->t<v):=⟨λh=>h s v rfl,λh a b e=>by cases e;exact h⟩
theorem ia{s:Bool}:jZ (some (s,v)) t↔v<=t/\(s=true->v<t):=⟨λh=>h s v rfl,λh a b e=>by cases e;exact h⟩
theorem iX:mB none t:=(λ_ _ h=>nomatch h)
theorem kP:jZ none t:=(λ_ _ h=>nomatch h)
abbrev L1:=Kn×Rat×Rat
def In (p:En×En) (t:Rat):Prop:=mB p.2 t/\jZ p.1 t
variable {c:Rat}
theorem jY(hc:0<c){x y:Rat}:c*x<=c*y↔x<=y:=⟨λz=>Rat.not_lt.mp λk=>by have:=Rat.mul_lt_mul_of_pos_left k hc;grind,λz=>Rat.mul_le_mul_of_nonneg_left z (le_of_lt hc)⟩
theorem jX(hc:0<c){x y:Rat}:c*x<c*y↔x<y:=⟨λz=>not_le.mp λk=>by have:=Rat.mul_le_mul_of_nonneg_left k (le_of_lt hc);grind,λz=>Rat.mul_lt_mul_of_pos_left z hc⟩
def scale (c:Rat) (g:En):En:=g.map λb=>(b.1,c*b.2)
theorem yL(hc:0<c)(g:En)(t:Rat):mB (scale c g) (c*t)↔mB g t:=by
 match g with
 |none=>exact⟨λ_=>iX,λ_=>iX⟩
 |some (s,v)=>
  show mB (some (s,c*v)) (c*t)↔_;rw[dU,dU,jY hc,jX hc]
theorem zQ(hc:0<c)(g:En)(t:Rat):jZ (scale c g) (c*t)↔jZ g t:=by
 match g with
 |none=>exact⟨λ_=>kP,λ_=>kP⟩
 |some (s,v)=>
  show jZ (some (s,c*v)) (c*t)↔_;rw[ia,ia,jY hc,jX hc]
theorem wZ(hc:c<0)(g:En)(t:Rat):mB (scale c g) (c*t)↔jZ g t:=by
 have hn:0 < -c:=by grind
 match g with
 |none=>exact⟨λ_=>kP,λ_=>iX⟩
 |some (s,v)=>
  show mB (some (s,c*v)) (c*t)↔_;rw[dU,ia];have e1:c*t<=c*v↔v<=t:=by rw[<- jY hn (x:=v) (y:=t)];constructor<;>intro z<;>grind
  have e2:c*t<c*v↔v<t:=by rw[<- jX hn (x:=v) (y:=t)];constructor<;>intro z<;>grind
  rw[e1,e2]
theorem xx(hc:c<0)(g:En)(t:Rat):jZ (scale c g) (c*t)↔mB g t:=by
 have hn:0 < -c:=by grind
 match g with
 |none=>exact⟨λ_=>iX,λ_=>kP⟩
 |some (s,v)=>
  show jZ (some (s,c*v)) (c*t)↔_;rw[dU,ia];have e1:c*v<=c*t↔t<=v:=by rw[<- jY hn (x:=t) (y:=v)];constructor<;>intro z<;>grind
  have e2:c*v<c*t↔t<v:=by rw[<- jX hn (x:=t) (y:=v)];constructor<;>intro z<;>grind
  rw[e1,e2]
end
end FM
namespace L3
noncomputable section
open PySem PySem.Spec PyProof.Rows L2
open PySem.W (Dat kqdOk)
variable {E:Value->Shared->Prop} {prog:Program} {A:Around} {w:World}
theorem LM{it l:Addr}{aq:Array Value}(ne:l≠it):∀(n i:Nat) (s:Shared) (Q:List Value->Shared->Prop),s.heap.IsListIter it l i->s.heap.IsList l aq->i+n<=aq.size->(∀h',h'.IsListIter it l (i+n)->SameBut it s.heap h'->Q ((aq.toList.drop i).take n) {s with heap:=h'})->wpAny (model prog w) A (draw (.ref it) n) Q E s
 |0,i,s,Q,st,_,_,q=>by
  show wpAny _ _ (pure []) Q E s;refine wpAny_pure ?_;have:=q s.heap st (SameBut.refl ..);rwa[List.take_zero]at this
 |n+1,i,s,Q,st,hl,hn,q=>by
  have hi:i<aq.size:=by omega
  have hd:aq.toList.drop i=aq[i]::aq.toList.drop (i+1):=by rw[List.drop_eq_getElem_cons (by simpa using hi)];simp
  show wpAny _ _ (pyNext (.ref it) >>= _) Q E s;refine wpAny_bind (wpAny_pyNext_list_item st hl (x:=aq[i]) (by simp[hi]) λh1 Ox s1=>?_);refine wpAny_bind (wpAny_holding (LM ne n (i+1) _ _ Ox (hl.extBut s1.extBut ne) (by omega) λh2 qp s2=>?_));refine wpAny_pure ?_;have:=q h2 (by rw[add_comm n 1,<- Nat.add_assoc];exact qp) (s1.trans s2);rwa[hd,List.take_succ_cons]at this
theorem Vx{s:Shared}{l:Addr}{aq:Array Value}{ts:List (Bool×(Value->Sem Unit))}{Q:Unit->Shared->Prop}(hh:A.handled=none)(hl:s.heap.IsList l aq)(hn:ts.length=aq.size)(hst:ts.findIdx? (·.1)=none)(h:∀h',ExtBut s.heap.objs.size s.heap h'->wpAny (model prog w) A (assignInOrder (ts.map (·.2)) aq.toList) Q E {s with heap:=h'}):wpAny (model prog w) A (unpack (.ref l) ts) Q E s:=by
 have ne:l≠s.heap.objs.size:=by obtain⟨o,e,_⟩:=hl;exact ne_of_lt (lt_size e)
 unfold unpack;rw[hn,hst];refine wpAny_bind (wpAny_holding ?_);unfold unpackItems notIterableAtAll;refine wpAny_bind (wpAny_bind (wpAny_specialOf hl.typeIs slot_list_iter.lookup (wpAny_pure ?_)));simp only[false_eq_true,if_false];refine wpAny_bind (wpAny_holding (wpAny_pyIter_list hl ?_));refine wpAny_bind (wpAny_holding (LM ne aq.size 0 _ _ ⟨_,get?_push_size _ rfl,rfl,rfl⟩ (hl.push _) (by omega) λh1 Ox s1=>?_));have ea:(aq.toList.drop 0).take aq.size=aq.toList:=by rw[drop_zero,take_of_length_le (by simp)]
 rw[ea,if_neg (by simp)];refine wpAny_bind (wpAny_holding (wpAny_pyNext_list_end hh Ox ((hl.push _).extBut s1.extBut ne) (by simp) λh2 e2=>?_));simp only[Option.isSome_none,false_eq_true,if_false];exact wpAny_pure (h h2 λb o hb e=>e2 b o hb (s1.extBut b o hb (get?_push_of_some _ e)))
def Wq (K:Frag) (n:Nat) (t:qc):TG:=λv σ H Q=>∃a xs,v=.ref a/\fk K H a xs/\xs.length=n/\t xs σ H Q
variable {es:List Expr} {pos:Pos} {X:Cx} {k n:Nat}
theorem P4{t:qc}(hc:X.calm=true)(h:vC X es t)(hn:(assignEach es X.env).length=n:=by rfl)(hst:(assignEach es X.env).findIdx? (·.1)=none:=by rfl):PG X (.Tuple es k pos) (Wq X.K n t):=by
 intro pins s σ H v u Q I r hw;obtain⟨a,xs,e1,hq,hl,hw⟩:=hw;subst e1;cases r;obtain⟨aq,rv,p,hz⟩:=I.list hq;rw[assign_Tuple];refine wpAny_bind (wpAny_standAt (Vx (I.ok.hd hc) p.isList (by simp[hn,<- hl,rv.length]) hst λh' hx=>?_));have I1:Inv X pins σ H {s with heap:=h'}:=I.kept (t':=s.toks) λb o e=>hx b o (ne_of_lt (lt_size e)) e;exact h pins _ σ H xs _ Q I1 (by simpa using rv) hw
variable {tg:Expr}
theorem Sr{t t':TG}(h:PG X tg t)(h':PG X tg t'):PG X tg (λv σ H Q=>t v σ H Q\/t' v σ H Q):=λpins s σ H v u Q I r q=>q.elim (h pins s σ H v u Q I r) (h' pins s σ H v u Q I r)
def B5 (n:Nat) (gs:List Dat->Option cI):Dat->Option cI:=λd=>match d with
 | .tuple ds=>if ds.length=n then gs ds else none
 | .list ds=>if ds.length=n then gs ds else none
 |_=>none
theorem P2{i3:List Expr}{t6:List Dat->Option cI}(hc:X.calm=true)(h:vC X i3 (vO X.K t6))(hn:(assignEach i3 X.env).length=n:=by rfl)(hst:(assignEach i3 X.env).findIdx? (·.1)=none:=by rfl):
  PG X (.Tuple i3 k pos) (fW X.K (B5 n t6)):=w6 (Sr (Gh hc h hn hst) (P4 hc h hn hst)) λv σ H Q aM=>by
 obtain⟨Av,d,as,r,e,q⟩:=aM;unfold B5 at e;split at e
 ·split at e
  ·rename_i ds hl;obtain⟨a,xs,rfl,hq,rs⟩:=r.ff;exact .inl ⟨a,xs,rfl,hq.sq,by rw[rs.length];exact hl,Av,ds,as,rs,e,q⟩
  ·cases e
 ·split at e
  ·rename_i ds hl;obtain⟨a,xs,rfl,hq,rs⟩:=r.fq;exact .inr ⟨a,xs,rfl,hq.sq,by rw[rs.length];exact hl,Av,ds,as,rs,e,q⟩
  ·cases e
 ·cases e
theorem rV{i3:List Expr}{t6:List Dat->Option cI}(hc:X.calm=true)(h:Iu X i3 (vO X.K t6))(hn:(assignEach i3 X.env).length=n:=by rfl)(hst:(assignEach i3 X.env).findIdx? (·.1)=none:=by rfl):QG X (.Tuple i3 k pos) (fW X.K (B5 n t6)):=⟨P2 hc h.o hn hst⟩
theorem zh(is:List Nat){st:Stmt}{g:ar->Option Fl}(h:dY X st g):dY X st (λΓ=>g (f7 is Γ)):=⟨bM h.o λD σ H ⟨af,Av,pn,aC,Γ,fl,⟨ad,G⟩,hf,q⟩=>⟨af,Av,pn,aC,f7 is Γ,fl,⟨ad,G.f7 is⟩,hf,q⟩⟩
def rQ (i:Nat) (h:HF):ar->Option Fl:=λΓ=>match Γ[i]? with
 |some (some (.own _))=>(h Γ).bind λp=>match p.2[i]? with
  |some (some (.own ds))=>gd (ds.length<sizeLine) (some (.nx (p.2.set i (some (.own (ds++[p.1]))))))
  |_=>none
 |_=>none
variable {K:Fg} {Av:dA} {Γ aj:ar} {i:Nat} {ds:List Dat}
theorem GA.LV{af H H₀' H':Hp}{Av':dA}{pn X0:Option Addr}{aC Wc:Hid}{σ:L2.St}{ad fI:Nat->Addr}(G:GA K af Av pn aC H σ Γ ad)(G':GA K H₀' Av' X0 Wc H' σ aj fI){dH:List Dat}(h:Γ[i]?=some (some (.own ds)))(h':aj[i]?=some (some (.own dH))):ad i=fI i:=by
 obtain⟨_,g1,_⟩:=G.own i ds h;obtain⟨_,k1,_⟩:=G'.own i dH h';rw[g1]at k1;injection k1 with k1;injection k1 with k1;injection k1
variable {e:Expr} {x:Str} {p1 p3:Pos} {h:HF}
theorem nj(i:Nat){p2:Pos}(pe:QH X e h)(hN:X.N[i]?=some x:=by rfl)(hv:kB X.env.scope x:=by first|exact Or.inl rfl|exact Or.inr (Or.inl rfl)|exact Or.inr (Or.inr rfl))(hd:(x==("__debug__" : Str))=false:=by decide)(fG:(x==("__classdict__" : Str))=false:=by decide)(pJ:attributeBase (.Name x p1) "append" X.env (eval (.Name x p1) X.env)=eval (.Name x p1) X.env:=by rfl)(tV:((backTo p3 (starEach [e] X.env)).all (λx=>!x.1)&&(backToKw p3 (keywordEach [] X.env)).all (λx=>x.1.isSome)&&decide (([e]:List Expr).length+([]:List Keyword).length+(if([]:List Keyword).isEmpty then 0 else 1)<30))=true:=by rfl)(pH:(p2.endLine==p3.line)=true:=by rfl)(A1:starEach [e] X.env=(false,eval e X.env)::starEach [] X.env:=by rfl)(mP:(backTo p3 (starEach [] X.env)).any (·.1)=false:=by rfl)(hs:swapsWith (.Call (.Attribute (.Name x p1) "append" p2) [e] [] p3) none pos.line X.env=pure false:=by rfl):dY X (.Expr (.Call (.Attribute (.Name x p1) "append" p2) [e] [] p3) pos) (rQ i h):=
 ⟨bM (w5 (E3 plainAttrs_list PySem.F.slot_list_append PySem.F.type_list_append xu (jT hN hv hd fG) (iZ pe.o mL A1) pJ tV pH A1 mP) hs) λD σ H aM=>by
 obtain⟨af,Av,pn,aC,Γ,fl,⟨ad,G⟩,hf,q⟩:=aM;unfold rQ at hf;split at hf
 ·rename_i vk gM;obtain⟨⟨d,Γ1⟩,e1,hf⟩:=bind_some hf;dsimp only at hf;split at hf
  ·rename_i ds hi;obtain⟨hz,hf⟩:=wx hf;cases hf;obtain⟨xs,g1,g2,g3,g4⟩:=G.own i vk gM;refine⟨_,g1,.inl ⟨rfl,xs,.of g2⟩,af,Av,pn,aC,Γ,ad,d,Γ1,G,e1,λv H1 eM G1 r=>?_⟩;obtain⟨yG,k1,k2,k3,k4⟩:=G1.own i ds hi;exact⟨_,yG,v,by rw[G.LV G1 gM hi],rfl,k2,by rw[k3.length];exact hz,q _ _ ⟨eM,G1.change hi (k3.append (.cons r .nil))⟩⟩
  ·cases hf
 ·cases hf⟩
def MB:V->List V->Hp->VK->Prop:=λx vs H Q=>∃(l:Addr) (xs:List V) (k:Nat) (y:V),x=.ref l/\vs=[.int (k:Int),y]/\H l=some (.lst xs)/\k<=xs.length/\xs.length<sizeLine/\Q .bW (upd H l (.lst (xs.take k++y::xs.drop k)))
theorem Nt(h:k<=sizeLine):Builtin.List.listFitsIndex (k:Int)=true:=by
 have h1:(k:Int)<=16777216:=by
  have:sizeLine=16777216:=by decide
  omega
 exact fitsIndex_both (by omega) (by omega)
theorem GI:Va X "list.insert" MB:=by
 intro pins s σ H x vs v us Q I rx rv h;obtain⟨l,xs,k,y,rfl,rfl,hH,hk,hz,q⟩:=h;cases rx;obtain⟨u0,u,rfl,⟨t,rfl⟩,ru⟩:=rv.two;obtain⟨z,aq,n,r,hl,e⟩:=I.Jy hH;have hc:=Nt (Nat.le_of_lt (lt_of_le_of_lt hk hz));have Lk:∃kx:Int,kx=(k:Int):=⟨_,rfl⟩;obtain⟨kx,Lk⟩:=Lk;rw[<- Lk]at hc ⊢;have hsz:aq.toArray.size<=sizeLine:=by rw[size_toArray,<- hl];exact z
 have M:=PySem.AutoSeq1.list_insert_list_int_val_1 l aq.toArray n kx t u (λz=>by rw[hc]at z;cases z) hsz;refine call_meets F.slot_list_insert ⟨_,e,rfl⟩ F.entry_list_insert (F.args_list_insert_3 _ _ _) M ⟨e,?_⟩;refine⟨.bW,_,I.PJ (its':=aq.take k++u::aq.drop k) hH e ?_ ((r.take k).append (.cons ru (r.drop k))) ?_,rfl,q⟩
 ·have ek:(if kx<0 then(kx+(aq.toArray.size:Int)).toNat else min kx.toNat aq.toArray.size)=k:=by
   rw[if_neg (by omega),Lk,toNat_natCast,size_toArray];omega
  show(aq.toArray.extract 0 (if kx<0 then _ else _)).push u++aq.toArray.extract (if kx<0 then _ else _)=_;rw[ek];simp;exact take_of_length_le (by rw[length_drop];exact le_refl _)
 ·rw[length_append,length_cons,length_take,length_drop];omega
def zV (ds:List Dat) (k:Nat) (d:Dat):List Dat:=ds.take k++d::ds.drop k
def uE (i:Nat) (hs:ar->Option (List Dat×ar)):ar->Option Fl:=λΓ=>match Γ[i]? with
 |some (some (.own _))=>(hs Γ).bind λp=>match p.1,p.2[i]? with
  |[.int k,d],some (some (.own ds))=>if 0<=k/\k.toNat<=ds.length/\ds.length<sizeLine then some (.nx (p.2.set i (some (.own (zV ds k.toNat d)))))else none
  |_,_=>none
 |_=>none
variable {hs:ar->Option (List Dat×ar)}
theorem FZ(i:Nat){a b:Expr}{p2:Pos}(pa:td X [a,b] hs)(hN:X.N[i]?=some x:=by rfl)(hv:kB X.env.scope x:=by first|exact Or.inl rfl|exact Or.inr (Or.inl rfl)|exact Or.inr (Or.inr rfl))(hd:(x==("__debug__" : Str))=false:=by decide)(fG:(x==("__classdict__" : Str))=false:=by decide)(pJ:attributeBase (.Name x p1) "insert" X.env (eval (.Name x p1) X.env)=eval (.Name x p1) X.env:=by rfl)(tV:((backTo p3 (starEach [a,b] X.env)).all (λx=>!x.1)&&(backToKw p3 (keywordEach [] X.env)).all (λx=>x.1.isSome)&&decide (([a,b]:List Expr).length+([]:List Keyword).length+(if([]:List Keyword).isEmpty then 0 else 1)<30))=true:=by rfl)(pH:(p2.endLine==p3.line)=true:=by rfl)(A1:starEach [a,b] X.env=(false,eval a X.env)::starEach [b] X.env:=by rfl)(mP:(backTo p3 (starEach [b] X.env)).any (·.1)=false:=by rfl)(k9:swapsWith (.Call (.Attribute (.Name x p1) "insert" p2) [a,b] [] p3) none pos.line X.env=pure false:=by rfl):dY X (.Expr (.Call (.Attribute (.Name x p1) "insert" p2) [a,b] [] p3) pos) (uE i hs):=
 ⟨bM (w5 (E3 plainAttrs_list PySem.F.slot_list_insert PySem.F.type_list_insert GI (jT hN hv hd fG) pa.o pJ tV pH A1 mP) k9) λD σ H aM=>by
 obtain⟨af,Av,pn,aC,Γ,fl,⟨ad,G⟩,hf,q⟩:=aM;unfold uE at hf;split at hf
 ·rename_i vk gM;obtain⟨⟨us,Γ1⟩,e1,hf⟩:=bind_some hf;dsimp only at hf;split at hf
  ·rename_i k d ds hi;split at hf
   ·rename_i hz;obtain⟨xG,hk,hz⟩:=hz;cases hf;obtain⟨xs,g1,g2,g3,g4⟩:=G.own i vk gM;refine⟨_,g1,.inl ⟨rfl,xs,.of g2⟩,af,Av,pn,aC,Γ,ad,_,Γ1,G,e1,λvs H1 eM G1 rs=>?_⟩;obtain⟨yG,k1,k2,k3,k4⟩:=G1.own i ds hi;cases rs with
    |cons ra rs=>
     cases rs with
     |cons rb rs=>
      cases rs;have ek:=ra.d7;subst ek;exact⟨_,yG,k.toNat,_,by rw[G.LV G1 gM hi],by rw[Int.toNat_of_nonneg xG],k2,by rw[k3.length];exact hk,by rw[k3.length];exact hz,q _ _ ⟨eM,G1.change hi ((k3.take _).append (.cons rb (k3.drop _)))⟩⟩
   ·cases hf
  ·cases hf
 ·cases hf⟩
open PySem PySem.Spec PyProof.Rows L2
open PySem.W (Dat kqdOk)
variable {gt:Dat->Option cI} {ft:ax->Option Bool} {fe:ax->Option Dat} {te:TE} {ρ:ax} {out:List Dat}
variable {aD:List (Option Nat)} in
theorem xW{σ:L2.St}{H1:Hp}{Bv:dA}{J:It}{xs:List V}{j5:List Dat}{Q:VK}(ht:iU gt aD)(hA:fJ H1 Av)(hE:dS K H1 Av σ ρ)(r:aB K H1 Av xs j5)(ov:vD K J xs j5 ds)(hz:ds.length<sizeLine)(hf:bT gt ft fe (dh aD ρ) ds=some out)(Xg:∀cP H3 BK d Q,aQ H1 H3->fJ H3 Av->dS K H3 Av cP BK->fe BK=some d->(∀v H',aQ H3 H'->aS K H' Bv v d->Q v H')->te cP H3 Q)(q:∀H2 D ys,aQ H1 H2->H2 D=none->aB K H2 Bv ys out->Q (.ref D) (upd H2 D (.lst ys))):
  ∃W:Nat->Nat->List V->Hp->Prop,(∃m,W 0 m [] H1)/\∀i m ys H,W i m ys H->ys.length<sizeLine/\
   ((J.stop i H/\∀D,H D=none->Q (.ref D) (upd H D (.lst ys)))\/
    (J.go i H/\∀x H',J.sQ i H x H'->fW K gt x (cO aD σ) H' λcP H2=>dZ (cO aD σ) cP/\iC K ft cP H2 λb H3=>if b=true then te cP H3 λv H4=>∃m',m'<m/\W (i+1) m' (ys++[v]) H4 else ∃m',m'<m/\W (i+1) m' ys H3)):=by
 refine⟨λi m ys H2=>m=ds.length-i/\i<=ds.length/\aQ H1 H2/\∃o1 o2,aB K H2 Bv ys o1/\o1.length<=i/\bT gt ft fe (dh aD ρ) (ds.drop i)=some o2/\out=o1++o2,⟨_,rfl,zero_le _,aQ.refl _,[],out,.nil,le_refl _,by rw[drop_zero];exact hf,rfl⟩,?_⟩;rintro i m ys H2 ⟨rfl,hi,s2,o1,o2,ro,hl,hc,rfl⟩;refine⟨by have:=ro.length;omega,?_⟩;have rx:=r.same s2;cases gf:ds[i]? with
 |none=>
  have hle:ds.length<=i:=List.getElem?_eq_none_iff.mp gf;rw[drop_eq_nil_of_le hle]at hc;cases hc;exact .inl ⟨(ov i H2 _ rx).1 hle,λD hD=>q H2 D ys s2 hD (by rw[append_nil];exact ro)⟩
 |some di=>
  have dw:=f6 gf;rw[drop_cons gf]at hc;obtain⟨as,a1,hc⟩:=bind_some (show(gt di).bind _=some o2 from hc);obtain⟨k,a2,hc⟩:=bind_some hc;obtain⟨go,yl⟩:=(ov i H2 _ rx).2 di gf;refine .inr ⟨go,λy H' hy=>?_⟩;obtain⟨sH,ry⟩:=yl y H' (hA.same s2) hy;have s5:=s2.trans sH;refine⟨Av,di,as,ry,a1,λws hw=>?_⟩;have cs:∀p∈as,(cO aD σ)[p.1]?=some none:=λp hp=>by
   unfold cO;rw[getElem?_map,ht di as a1 p hp];rfl
  have E2:dS K H' Av (nQ (cO aD σ) ws) (gQ (dh aD ρ) as):=dS.fX hw (by unfold cO dh;rw[length_map,length_map]) ((hE.same s5).aD aD);refine⟨dZ.fX hw cs (dZ.refl _),Av,_,k,hA.same s5,E2,a2,λH3 s3=>?_⟩;cases k with
  |false=>
   rw[if_neg Bool.false_ne_true]at hc ⊢;exact⟨ds.length-(i+1),by omega,rfl,by omega,s5.trans s3,o1,o2,ro.same (sH.trans s3),by omega,hc,rfl⟩
  |true=>
   rw[if_pos rfl]at hc ⊢;obtain⟨dv,a3,hc⟩:=bind_some hc;obtain⟨o3,a4,hc⟩:=aT hc;subst hc;refine Xg _ H3 _ dv _ (s5.trans s3) (hA.same (s5.trans s3)) (E2.same s3) a3 λv H4 s4 rv=>⟨ds.length-(i+1),by omega,rfl,by omega,s5.trans (s3.trans s4),o1++[dv],o3,(ro.same (sH.trans (s3.trans s4))).append (.cons rv .nil),?_,a4,?_⟩
   ·rw[length_append,length_singleton];omega
   ·rw[append_assoc];rfl
variable {aD:List (Option Nat)} in
def v9 (aD:List (Option Nat)) (gt:Dat->Option cI) (ft:ax->Option Bool) (fe:ax->Option Dat) (hI:ar->Option (List Dat×ar)):ar->Option (List Dat×ar):=λΓ=>(hI Γ).bind λp=>if p.1.length<sizeLine then(bT gt ft fe (dh aD (bG p.2)) p.1).map λout=>(out,p.2)else none
variable {hI:ar->Option (List Dat×ar)}
variable {aD:List (Option Nat)} in
theorem Mn(ht:iU gt aD):∀σ H Q,WT K (v9 aD gt ft fe hI) σ H Q->ni aD (Tn K hI) (fW K gt) (iC K ft) (tF K fe) σ H Q:=by
 rintro σ H Q ⟨af,Av,pn,aC,WC,YU,out,aj,Gi,hf,q⟩;obtain⟨⟨aq,Γ⟩,e1,hf⟩:=bind_some hf;dsimp only at hf;split at hf
 ·rename_i hz;obtain⟨out',e2,hf⟩:=aT hf;obtain⟨h1,h2⟩:=Prod.mk.inj hf;subst h1 h2;exact⟨af,Av,pn,aC,WC,YU,aq,Γ,Gi,e1,λJ xs j5 H1 ad G rx ov=>xW ht G.gu G.jc rx ov hz e2 (λcP H3 BK d Q _ hA hE e h=>⟨_,BK,d,hA,hE,e,h⟩) λH2 D ys s2 hD ro=>q H2 D ys ad (G.grow s2) hD ro⟩
 ·cases hf
def JW (H:Hp):dA:=λa=>∃o,H a=some o
def Oq (K:Fg) (f:ax->Option Dat):TE:=λσ H Q=>∃Av ρ d,fJ H Av/\dS K H Av σ ρ/\f ρ=some d/\∀v H',aQ H H'->aS K H' (JW H) v d->Q v H'
theorem aB.Tt{H:Hp}{Av Av':dA}:∀{vs:List V} {ds:List Dat},aB K H Av vs ds->ds.all pW=true->aB K H Av' vs ds
 |_,_,.nil,_=>.nil
 |_,_,.cons r t,h=>by
  rw[all_cons,and_eq_true]at h;exact .cons (r.sc h.1) (aB.Tt t h.2)
def JR (f:ax->Option (List Dat)):ax->Option Dat:=λρ=>(f ρ).bind λds=>if ds.all pW=true then some (.list ds)else none
theorem GC{H H1:Hp}{p:Addr}{xs:List V}(s:aQ H H1)(hp:H1 p=none)(r:aB K H1 Av xs ds)(h:ds.all pW=true):aS K (upd H1 p (.lst xs)) (JW H) (.ref p) (.list ds):=
 .lst (.inl ⟨.inl dC,fun⟨o,e⟩=>by have:=s _ _ e;rw[hp]at this;cases this⟩) ((r.Tt h).same (bK hp _))
variable {aD:List (Option Nat)} in
def Hu (aD:List (Option Nat)) (gt:Dat->Option cI) (ft:ax->Option Bool) (fe:ax->Option Dat) (fi:ax->Option (List Dat)):ax->Option (List Dat):=λρ=>(fi ρ).bind λds=>if ds.length<sizeLine then bT gt ft fe (dh aD ρ) ds else none
variable {fs:ax->Option (List Dat)} in
theorem J5(h:QE X e (ko X.K fs)):QE X e (Oq X.K (JR fs)):=⟨bo h.o λσ H Q aM=>by
 obtain⟨Av,ρ,d,hA,hE,hf,q⟩:=aM;obtain⟨ds,e1,hf⟩:=bind_some hf;split at hf
 ·rename_i hz;cases hf;exact⟨Av,ρ,ds,hA,hE,e1,λH1 p xs s hp r=>q _ _ (s.trans (bK hp _)) (GC s hp r hz)⟩
 ·cases hf⟩
def yX (i:Nat) (f:ax->Option (List Dat)):ar->Option Fl:=λΓ=>(f (bE Γ)).map λds=>.nx (Γ.set i (some (.a8 (.list ds))))
variable {elt iter:Expr} {fi:ax->Option (List Dat)} {pos' gz:Pos} {ifs:List Expr} {scope:Scope} {cl:List (Str×Addr)} {N':List Str}
theorem DP(i:Nat){aD:List (Option Nat)}(hN:X.N.Nodup)(hc:X.calm=true)(B:nK X scope cl N' aD)(hi:rF X tg iter fi)(hg:∀C aw af ex,QG (fP X scope cl N' C aw af ex) tg (fW X.K gt))(ht:∀C aw af ex,rE (fP X scope cl N' C aw af ex) ifs (iC X.K ft))(he:∀C aw af ex,QE (fP X scope cl N' C aw af ex) elt (Oq X.K fe))(hT:iU gt aD)(ky:X.N[i]?=some x:=by rfl)(hx:Loc X.env.scope x:=by first|exact .inl rfl|exact .inr rfl)(k9:swapsWith (.ListComp elt [⟨tg,iter,ifs,0⟩] scope pos) (some (.Name x pos')) gz.line X.env=pure true:=by rfl)(mQ:X.fn x=true\/X.env.scope.names.lookup x=some .local:=by first|exact .inl rfl|exact .inr rfl)(hs:∀x,foldedSetIterable iter X.env x=pure x:=by intro _;rfl):
  dY X (.Assign [.Name x pos'] (.ListComp elt [⟨tg,iter,ifs,0⟩] scope pos) gz) (yX i (Hu aD gt ft fe fi)):=⟨bM (rX hc B hi.o (λC aw af ex=>(hg C aw af ex).o) (λC aw af ex=>(ht C aw af ex).o) (λC aw af ex=>(he C aw af ex).o) hN ky hx k9 mQ hs) λD σ H aM=>by
 obtain⟨af,Av,pn,aC,Γ,fl,⟨ad,G⟩,hf,q⟩:=aM;obtain⟨out,e0,hf⟩:=aT hf;subst hf;obtain⟨ds,e1,e0⟩:=bind_some e0;split at e0
 ·rename_i hz;refine⟨Av,bE Γ,ds,G.fH.same G.same,G.kS,e1,λJ xs j5 H1 s1 r ov=>xW (Bv:=JW H) (te:=Oq X.K fe) (Q:=λv H'=>D.nx (List.set σ i (some v)) H') hT (G.fH.same (G.same.trans s1)) (G.kS.same s1) r ov hz e0 (λcP H3 BK d Q s3 hA hE e h=>⟨_,BK,d,hA,hE,e,λv H' s' rv=>h v H' s' (rv.weak λa ⟨o,z⟩=>⟨o,s3 _ _ (s1 _ _ z)⟩)⟩) λH2 p ys s2 hp ro=>?_⟩;have s:=s1.trans s2;have G1:=G.grow s;exact q _ _ ⟨ad,(G1.grow (bK hp _)).set i (.nV G1.gu hp (ro.weak λa z=>G.gu a z))⟩
 ·cases e0⟩
theorem DO(i:Nat){aD:List (Option Nat)}(hN:X.N.Nodup)(hc:X.calm=true)(B:nK X scope cl N' aD)(hi:LY X tg iter hI)(hg:∀C aw af ex,QG (fP X scope cl N' C aw af ex) tg (fW X.K gt))(ht:∀C aw af ex,rE (fP X scope cl N' C aw af ex) ifs (iC X.K ft))(he:∀C aw af ex,QF (fP X scope cl N' C aw af ex) elt fe)(hT:iU gt aD)(ky:X.N[i]?=some x:=by rfl)(hx:Loc X.env.scope x:=by first|exact .inl rfl|exact .inr rfl)(k9:swapsWith (.ListComp elt [⟨tg,iter,ifs,0⟩] scope pos) (some (.Name x pos')) gz.line X.env=pure true:=by rfl)(mQ:X.fn x=true\/X.env.scope.names.lookup x=some .local:=by first|exact .inl rfl|exact .inr rfl)(hs:∀x,foldedSetIterable iter X.env x=pure x:=by intro _;rfl):
  dY X (.Assign [.Name x pos'] (.ListComp elt [⟨tg,iter,ifs,0⟩] scope pos) gz) (yY i (v9 aD gt ft fe hI)):=⟨bM (rX hc B hi.o (λC aw af ex=>(hg C aw af ex).o) (λC aw af ex=>(ht C aw af ex).o) (λC aw af ex=>(he C aw af ex).o) hN ky hx k9 mQ hs) λD σ H aM=>by
 obtain⟨af,Av,pn,aC,Γ,fl,⟨ad,G⟩,hf,q⟩:=aM;obtain⟨⟨ds,Γ1⟩,e1,hf⟩:=aT hf;subst hf;exact Mn hT σ H _ ⟨af,Av,pn,aC,Γ,ad,ds,Γ1,G,e1,λH1 p xs eM G1 hp r=>q _ _ ⟨eM,(G1.grow (bK hp _)).set i (.nV G1.gu hp r)⟩⟩⟩
def DJ (i:Nat) (f:ar->Option (List Dat×ar)):ar->Option Fl:=λΓ=>(f Γ).map λp=>.nx (p.2.set i (some (.own p.1)))
def QC (hs:ar->Option (List Dat×ar)):ar->Option (List Dat×ar):=λΓ=>(hs Γ).bind λp=>if p.1.length<=sizeLine then some p else none
theorem FY(i:Nat)(hN:X.N.Nodup)(pa:td X es hs)(gM:i≠0:=by decide)(hi:X.N[i]?=some x:=by rfl)(hx:Loc X.env.scope x:=by first|exact .inl rfl|exact .inr rfl){p:Pos}(k9:swapsWith (.List es p) (some (.Name x pos')) pos.line X.env=pure false:=by rfl)(hf:X.fn x=true\/X.env.scope.names.lookup x=some .local:=by first|exact .inl rfl|exact .inr rfl):
  dY X (.Assign [.Name x pos'] (.List es p) pos) (DJ i (QC hs)):=⟨bM (qA hN hi hx (qH pa.o) k9 hf) λD σ H aM=>by
 obtain⟨af,Av,pn,aC,Γ,fl,⟨ad,G⟩,hf,q⟩:=aM;obtain⟨⟨ds,Γ1⟩,e1,hf⟩:=aT hf;subst hf;obtain⟨⟨dH,Γ1'⟩,e2,hf⟩:=bind_some e1;dsimp only at hf;split at hf
 ·rename_i hz;cases hf;exact⟨af,Av,pn,aC,Γ,ad,_,_,G,e2,λvs H1 eM G1 rs=>⟨by rw[rs.length];exact hz,λp hp=>q _ _ ⟨_,G1.yU i gM hp rs⟩⟩⟩
 ·cases hf⟩
variable {fb:ax->Option Dat}
variable {fs:ax->Option (List Dat)} in
def vT (i:Nat) (fs:ax->Option (List Dat)) (fb:ax->Option Dat):ar->Option Fl:=λΓ=>(fs (bE Γ)).bind λes=>(fb (bG Γ)).bind λk=>(rA k).bind λk=>match Γ[i]? with
 |some (some (.own ds))=>if es.all pW=true then(lM ds.length k).map λj=>.nx (Γ.set i (some (.own (ds.set j (.list es)))))else none
 |_=>none
variable {b:Expr}
variable {fs:ax->Option (List Dat)} in
theorem sS(i:Nat)(pe:QE X e (ko X.K fs))(pb:QF X b fb)(hN:X.N[i]?=some x:=by rfl)(hv:kB X.env.scope x:=by first|exact Or.inl rfl|exact Or.inr (Or.inl rfl)|exact Or.inr (Or.inr rfl))(hd:(x==("__debug__" : Str))=false:=by decide)(fG:(x==("__classdict__" : Str))=false:=by decide)(ha:∀v,assign (.Subscript (.Name x p1) b p3) X.env v=(do
   let ov <- holding [v] (eval (.Name x p1) X.env);let iv <- holding [v,ov] (eval b X.env);standAt p3
   holding [v,ov,iv] (setItem ov iv v)
   release [v,ov,iv] []):=by intro _;rfl)(hs:swapsWithSole [.Subscript (.Name x p1) b p3] e pos.line X.env=pure false:=by rfl)(hw:swappedStores [.Subscript (.Name x p1) b p3] e X.env=pure none:=by rfl)(h1:(assignEach [.Subscript (.Name x p1) b p3] X.env).map (·.2)=[assign (.Subscript (.Name x p1) b p3) X.env]:=by rfl):
  dY X (.Assign [.Subscript (.Name x p1) b p3] e pos) (vT i fs fb):=⟨bM (qE pe.o (zz (jT hN hv hd fG) pb.o set_list ha) hs hw h1) λD σ H aM=>by
 obtain⟨af,Av,pn,aC,Γ,fl,⟨ad,G⟩,hf,q⟩:=aM;obtain⟨es,e1,hf⟩:=bind_some hf;obtain⟨kd,e2,hf⟩:=bind_some hf;obtain⟨k,e3,hf⟩:=bind_some hf;have e4:=B3 e3;subst e4;split at hf
 ·rename_i ds hi;split at hf
  ·rename_i hz;obtain⟨j,e5,hf⟩:=aT hf;subst hf;refine⟨Av,bE Γ,es,G.fH.same G.same,G.kS,e1,λH' p xs s hp r=>?_⟩;have s':=s.trans (bK hp (.lst xs));have G1:=G.grow s';obtain⟨zs,g1,g2,g3,g4⟩:=G1.own i ds hi;refine⟨_,g1,bz Av Γ ad,bG Γ,.int k,G1.gu,G1.jc,e2,λy H2 s2 ry=>?_⟩;have G2:=G1.grow s2;obtain⟨ys,g5,g6,g7,g8⟩:=G2.own i ds hi;exact⟨_,ys,k,j,rfl,ry.d7,g6,by rw[g7.length];exact e5,q _ _ ⟨ad,G2.change hi (g7.set (((GC s hp r hz).weak λa z=>G.gu a z).same s2))⟩⟩
  ·cases hf
 ·cases hf⟩
open PySem PySem.Spec PyProof.Rows L2
open PySem.W (Dat kqdOk)
theorem de{α:Type}{gt:Dat->Option cI}{fe:ax->Option Dat}{ik:ax}{enc dec:α->Dat}:∀(l:List α),(∀x∈l,∃as,gt (enc x)=some as/\fe (gQ ik as)=some (dec x))->bT gt fK fe ik (l.map enc)=some (l.map dec)
 |[],_=>rfl
 |x::l,h=>by
  obtain⟨as,e1,e2⟩:=h x mem_cons_self;show(gt (enc x)).bind _=_;rw[e1,Option.bind_some];show(if true=true then(fe (gQ ik as)).bind (λv=>(bT gt fK fe ik (l.map enc)).map (v::·))else bT gt fK fe ik (l.map enc))=_;rw[if_pos rfl,e2,Option.bind_some,de l λy hy=>h y (mem_cons_of_mem _ hy)];rfl
theorem lD{aD:List (Option Nat)}(h:fi ρ=some ds)(hl:ds.length<sizeLine)(hc:bT gt ft fe (dh aD ρ) ds=some out):gh aD gt ft fe fi ρ=some out:=by
 unfold gh;rw[h,Option.bind_some,if_pos hl];exact hc
theorem K9{aD:List (Option Nat)}(h:fi ρ=some ds)(hl:ds.length<sizeLine)(hc:bT gt ft fe (dh aD ρ) ds=some out):Hu aD gt ft fe fi ρ=some out:=lD h hl hc
variable {d:Dat}
theorem mW{aD:List (Option Nat)}{fi:ax->Option Dat}(h:fi ρ=some d)(h2:dE d=some ds)(hl:ds.length<sizeLine)(hc:bT gt ft fe (dh aD ρ) ds=some out):kc aD gt ft fe fi ρ=some out:=by
 unfold kc;rw[h,Option.bind_some,h2,Option.bind_some,if_pos hl];exact hc
variable {Γ1:ar}
theorem K8{aD:List (Option Nat)}(h:hI Γ=some (ds,Γ1))(hl:ds.length<sizeLine)(hc:bT gt ft fe (dh aD (bG Γ1)) ds=some out):v9 aD gt ft fe hI Γ=some (out,Γ1):=by
 unfold v9;rw[h,Option.bind_some];show(if ds.length<sizeLine then _ else none)=_;rw[if_pos hl,hc];rfl
variable {f:ax->Option (List Dat)}
theorem Pa(h:f (bG Γ)=some ds):oZ i f Γ=some (.nx (Γ.set i (some (.own ds)))):=by
 unfold oZ;rw[h];rfl
theorem oX(h:f (bG Γ)=some ds):lW i f Γ=some (.nx (Γ.set i (some (.a8 (.list ds))))):=by
 unfold lW;rw[h];rfl
theorem IP(h:f (bE Γ)=some ds):yX i f Γ=some (.nx (Γ.set i (some (.a8 (.list ds))))):=by
 unfold yX;rw[h];rfl
variable {es:List Dat} {j:Nat}
theorem xi{fs:ax->Option (List Dat)}{k:Int}(h1:fs (bE Γ)=some es)(h2:fb (bG Γ)=some (.int k))(h3:Γ[i]?=some (some (.own ds)))(h4:es.all pW=true)(h5:lM ds.length k=some j):vT i fs fb Γ=some (.nx (Γ.set i (some (.own (ds.set j (.list es)))))):=by
 unfold vT;rw[h1,Option.bind_some,h2,Option.bind_some];show(match Γ[i]? with|some (some (.own ds))=>_|_=>_)=_
 rw[h3];show(if es.all pW=true then _ else none)=_;rw[if_pos h4,h5];rfl
theorem wm(h:k<n):lM n (k:Int)=some k:=by
 unfold lM;rw[if_pos (by omega),if_pos (by omega)];rfl
theorem gE(h:ds[k]?=some d):bf (.list ds) (.int (k:Int))=some d:=by
 show gH ds (k:Int)=_;unfold gH;rw[wm (f6 h),Option.bind_some];exact h
variable {m:Nat}
theorem DG:xh (.list ds) none (some (m:Int))=some (.list (ds.take m)):=by
 show some (Dat.list (cutD ds none (some (m:Int))))=_;unfold cutD;rw[HT.oo,HT.p0,drop_zero,sub_zero];by_cases h:m<=ds.length
 ·rw[Nat.min_eq_left h]
 ·rw[Nat.min_eq_right (by omega),take_of_length_le (le_refl _),take_of_length_le (by omega)]
theorem BX:xh (.list ds) (some (m:Int)) none=some (.list (ds.drop m)):=by
 show some (Dat.list (cutD ds (some (m:Int)) none))=_;unfold cutD;rw[HT.oo,HT.p0];by_cases h:m<=ds.length
 ·rw[Nat.min_eq_left h,take_of_length_le (by rw[length_drop];exact le_refl _)]
 ·rw[Nat.min_eq_right (by omega),drop_eq_nil_of_le (le_refl _),drop_eq_nil_of_le (by omega),List.take_nil]
theorem N0{f:ar->Option (List Dat×ar)}(h:f Γ=some (ds,Γ1)):DJ i f Γ=some (.nx (Γ1.set i (some (.own ds)))):=by
 unfold DJ;rw[h];rfl
theorem ML{f:ax->Option Dat}(h:f (bG Γ)=some d):fM f Γ=some (d,Γ):=by
 unfold fM;rw[h]
theorem Mx(e:h Γ=some (d,aj)):oY h Γ=some (.rm d aj):=by
 unfold oY;rw[e];rfl
theorem Mh{fa fc:ax->Option Dat}{x y z:Dat}(h1:fa ρ=some x)(h2:fb ρ=some y)(h3:fc ρ=some z):kR (aO fa (aO fb (aO fc bS))) ρ=some (.tuple [x,y,z]):=by
 unfold kR aO;rw[h1,h2,h3];show(if 3<=sizeLine then _ else none)=_;rw[if_pos (Nat.le_of_lt (jA (by decide)))];rfl
theorem Kc{g:List Dat->Option Dat}{f:ax->Option Dat}{e:Dat}(h:f ρ=some d)(h2:g [d]=some e):d8 g (aO f bS) ρ=some e:=by
 unfold d8 aO;rw[h];exact h2
theorem Nr{F:List Dat->Option Dat}{fa:ax->Option Dat}{x y:Dat}(h1:fa ρ=some x)(h2:fb ρ=some y)(h:F [x,y]=some d):iR 2 F (aO fa (aO fb bS)) ρ=some d:=by
 unfold iR aO;rw[h1,h2];show(if 2=2 then F [x,y]else none)=_;rw[if_pos rfl,h]
theorem LH(h:f ρ=some ds):fL f ρ=some (.list ds):=by
 unfold fL;rw[h];rfl
theorem sJ{vk:List Dat}(h0:Γ[i]?=some (some (.own vk)))(e:h Γ=some (d,Γ1))(h1:Γ1[i]?=some (some (.own ds)))(hz:ds.length<sizeLine):rQ i h Γ=some (.nx (Γ1.set i (some (.own (ds++[d]))))):=by
 unfold rQ;rw[h0];show(h Γ).bind _=_;rw[e,Option.bind_some];show(match Γ1[i]? with|some (some (.own ds))=>_|_=>_)=_
 rw[h1];show gd (ds.length<sizeLine) _=_;unfold gd;rw[if_pos hz]
theorem Nj{vk:List Dat}(h0:Γ[i]?=some (some (.own vk)))(e:hs Γ=some ([.int (k:Int),d],Γ1))(h1:Γ1[i]?=some (some (.own ds)))(hk:k<=ds.length)(hz:ds.length<sizeLine):uE i hs Γ=some (.nx (Γ1.set i (some (.own (zV ds k d))))):=by
 unfold uE;rw[h0];show(hs Γ).bind _=_;rw[e,Option.bind_some];show(match ([.int (k:Int),d]:List Dat),Γ1[i]? with|[.int k,d],some (some (.own ds))=>_|_,_=>_)=_
 rw[h1];show(if 0<=(k:Int)/\(k:Int).toNat<=ds.length/\ds.length<sizeLine then _ else none)=_;rw[if_pos ⟨by omega,by rw[toNat_natCast];exact hk,hz⟩,toNat_natCast]
theorem nF{xs ys:List Dat}(h:xs.length+ys.length<=sizeLine):uh (.list xs) (.list ys)=some (.list (xs++ys)):=if_pos h
theorem mT{gt:Dat->Option cI}{gb:ar->Option Fl}{β:Type}{enc:β->Dat}(I:List β->ar->Prop)(step:∀x l Γ,I (x::l) Γ->∃as,gt (enc x)=some as/\∃aj,gb (setG Γ as)=some (.nx aj)/\I l aj):∀(l:List β) (Γ:ar),I l Γ->∃aj,forL gt gb (l.map enc) Γ=some (.nx aj)/\I [] aj
 |[],Γ,h=>⟨Γ,rfl,h⟩
 |x::l,Γ,h=>by
  obtain⟨as,e1,Γ1,e2,h1⟩:=step x l Γ h;obtain⟨qh,e3,h2⟩:=mT I step l Γ1 h1;refine⟨qh,?_,h2⟩;show(gt (enc x)).bind _=_;rw[e1];show(gb (setG Γ as)).bind _=_;rw[e2];exact e3
theorem Az{gt:Dat->Option cI}{gb:ar->Option Fl}{β:Type}{enc:β->Dat}(I:List β->ar->Prop)(R:Dat->Prop)(step:∀x l Γ,I (x::l) Γ->∃as,gt (enc x)=some as/\((∃aj,gb (setG Γ as)=some (.nx aj)/\I l aj)\/∃d,gb (setG Γ as)=some (.rt d)/\R d)):∀(l:List β) (Γ:ar),I l Γ->(∃aj,forL gt gb (l.map enc) Γ=some (.nx aj)/\I [] aj)\/∃d,forL gt gb (l.map enc) Γ=some (.rt d)/\R d
 |[],Γ,h=>.inl ⟨Γ,rfl,h⟩
 |x::l,Γ,h=>by
  obtain⟨as,e1,h1⟩:=step x l Γ h;rcases h1 with⟨Γ1,e2,h1⟩|⟨d,e2,h1⟩
  ·have e4:forL gt gb ((x::l).map enc) Γ=forL gt gb (l.map enc) Γ1:=by
    show(gt (enc x)).bind _=_;rw[e1];show(gb (setG Γ as)).bind _=_;rw[e2];rfl
   rw[e4];exact Az I R step l Γ1 h1
  ·refine .inr ⟨d,?_,h1⟩;show(gt (enc x)).bind _=_;rw[e1];show(gb (setG Γ as)).bind _=_;rw[e2];rfl
variable {g1 g2:ar->Option Fl}
theorem yV(h:g1 Γ=some (.rt d)):cN g1 g2 Γ=some (.rt d):=by
 unfold cN;rw[h];rfl
variable {gb:ar->Option Fl} {β:Type}
theorem AB{enc:β->Dat}{l:List β}(I:List β->ar->Prop)(h:hI Γ=some (l.map enc,Γ1))(h0:I l Γ1)(step:∀x l Γ,I (x::l) Γ->∃as,gt (enc x)=some as/\∃aj,gb (setG Γ as)=some (.nx aj)/\I l aj):∃aj,DK gt gb hI Γ=some (.nx aj)/\I [] aj:=by
 unfold DK;rw[h,Option.bind_some];exact mT I step l Γ1 h0
theorem CN(h:fi (bG Γ)=some ds):lX gt gb fi Γ=forL gt gb ds Γ:=by
 unfold lX;rw[h];rfl
theorem AA{enc:β->Dat}{l:List β}(I:List β->ar->Prop)(h:fi (bG Γ)=some (l.map enc))(h0:I l Γ)(step:∀x l Γ,I (x::l) Γ->∃as,gt (enc x)=some as/\∃aj,gb (setG Γ as)=some (.nx aj)/\I l aj):∃aj,lX gt gb fi Γ=some (.nx aj)/\I [] aj:=by
 unfold lX;rw[h,Option.bind_some];exact mT I step l Γ h0
variable {rg:List Dat->Option (List Dat)} {as:List Dat}
theorem Ax{fs:ax->Option (List Dat)}{enc:β->Dat}{l:List β}(I:List β->ar->Prop)(h1:fs (bE Γ)=some as)(h:rg as=some (l.map enc))(h0:I l Γ)(step:∀x l Γ,I (x::l) Γ->∃as,gt (enc x)=some as/\∃aj,gb (setG Γ as)=some (.nx aj)/\I l aj):∃aj,uG rg gt gb fs Γ=some (.nx aj)/\I [] aj:=by
 unfold uG;rw[h1,Option.bind_some,h,Option.bind_some];exact mT I step l Γ h0
variable {I:ar->Prop}
theorem fA(h:g1 Γ=some (.nx Γ1))(h2:∃aj,g2 Γ1=some (.nx aj)/\I aj):∃aj,cN g1 g2 Γ=some (.nx aj)/\I aj:=by
 obtain⟨aj,e,i⟩:=h2;refine⟨aj,?_,i⟩;unfold cN;rw[h];exact e
theorem sC{J:ar->Prop}(I:ar->Prop)(h:∃Γ1,g1 Γ=some (.nx Γ1)/\I Γ1)(h2:∀Γ1,I Γ1->∃aj,g2 Γ1=some (.nx aj)/\J aj):∃aj,cN g1 g2 Γ=some (.nx aj)/\J aj:=by
 obtain⟨Γ1,e,i⟩:=h;exact fA e (h2 Γ1 i)
theorem r9{ht:ar->Option (Bool×ar)}{b:Bool}(h:ht Γ=some (b,Γ1))(h1:b=true->∃aj,g1 Γ1=some (.nx aj)/\I aj)(h2:b=false->∃aj,g2 Γ1=some (.nx aj)/\I aj):∃aj,yZ ht g1 g2 Γ=some (.nx aj)/\I aj:=by
 unfold yZ;rw[h];cases b with
 |true=>exact h1 rfl
 |false=>exact h2 rfl
theorem d9{g:ar->Option Fl}(h:g Γ=some (.nx aj))(hI:I aj):∃aj,g Γ=some (.nx aj)/\I aj:=⟨aj,h,hI⟩
theorem Hy(h:ft (bE Γ)=some true)(h2:∃aj,g1 Γ=some (.nx aj)/\I aj):∃aj,iE ft g1 g2 Γ=some (.nx aj)/\I aj:=by
 unfold iE;rw[h];exact h2
theorem Hz(h:ft (bE Γ)=some false)(h2:∃aj,g2 Γ=some (.nx aj)/\I aj):∃aj,iE ft g1 g2 Γ=some (.nx aj)/\I aj:=by
 unfold iE;rw[h];exact h2
theorem ke{b:Bool}(h:ft (bE Γ)=some b)(h1:b=true->∃aj,g1 Γ=some (.nx aj)/\I aj)(h2:b=false->∃aj,g2 Γ=some (.nx aj)/\I aj):∃aj,iE ft g1 g2 Γ=some (.nx aj)/\I aj:=by
 cases b with
 |true=>exact Hy h (h1 rfl)
 |false=>exact Hz h (h2 rfl)
theorem Am{aq:List Dat}(h:hs Γ=some (as,aj))(h2:rg as=some aq):JN rg hs Γ=some (aq,aj):=by
 unfold JN;rw[h];show(rg as).map _=_;rw[h2];rfl
theorem Nk{aq:List Dat}(e:h Γ=some (d,aj))(h2:dE d=some aq):JM h Γ=some (aq,aj):=by
 unfold JM;rw[e];show(dE d).map _=_;rw[h2];rfl
theorem FI{f:ar->Option (List Dat×ar)}(h:f Γ=some (out,Γ1)):yY j f Γ=some (.nx (Γ1.set j (some (.a8 (.list out))))):=by
 unfold yY;rw[h];rfl
def bH (r:List Int):Dat:=.list (r.map .int)
def cv (M:List (List Int)):Dat:=.list (M.map bH)
theorem tB(r:List Int):(r.map Dat.int).all pW=true:=by
 rw[all_map,all_eq_true];exact λ_ _=>rfl
end
end L3
namespace L2
noncomputable section
open PySem PySem.Spec PyProof.Rows
abbrev lJ (X:Cx) (scope:Scope) (kx:Str) (cl:List (Str×Addr)) (N':List Str) (C:Addr) (aw:Shared) (af:Hp) (ex:List Addr):Cx:=
 {prog:=X.prog,w:=X.w,K:=X.K,mg:=X.mg,base:=X.base,A:=X.A,N:=N',aw:=aw,af:=af,env:=compEnvC scope ((kx,C+1)::cl) C X.env,outer:=X.stack,stack:=X.stack,ex:=ex,fn:=λy=>y==kx,calm:=X.calm,pn:=[],xe:=λ_ _=>False}
structure ur (X:Cx) (scope:Scope) (kx:Str) (cl:List (Str×Addr)) (N':List Str) (aD:List (Option Nat)):Prop where
 wC:closureFor scope X.env=pure cl
 cf:∀n,cellsFrom n scope.names cl=(kx,n)::cl
 pc:∀h,pushCells h scope.names=h.push {cls:=.type "cell",data:=.cell none}
 kind:scope.kind=.function
 names:∀y∈scope.names,y.2=.local->scope.names.lookup y.1=some .local
 nd:N'.Nodup
 len:aD.length=N'.length
 own:cl.lookup kx=none
 sub:∀x c,cl.lookup x=some c->X.env.cells.lookup x=some c
 has:∀x,((relabel scope X.env).names.lookup x=some .cell\/(relabel scope X.env).names.lookup x=some .free)->x=kx\/∃c,cl.lookup x=some c
 aD:∀(i:Nat) (x:Str) (j:Nat),N'[i]?=some x->aD[i]?=some (some j)->X.N[j]?=some x/\kB X.env.scope x/\((relabel scope X.env).names.lookup x=some .cell\/(relabel scope X.env).names.lookup x=some .free)/\X.env.scope.names.lookup x≠some .local/\x≠kx
variable {X:Cx} {scope:Scope} {kx:Str} {cl:List (Str×Addr)} {N':List Str}
theorem ur.g{aD:List (Option Nat)}(B:ur X scope kx cl N' aD):Bl X scope (some kx) cl N' aD:=
 ⟨B.wC,λn=>B.cf (n+1),B.pc,B.kind,B.names,B.len,(λk z=>by cases z;exact B.own),B.sub,λx h=>(B.has x h).imp (λe=>by rw[e]) id,λi x j h1 h2=>let ⟨a,b,c,d,e⟩:=B.aD i x j h1 h2;⟨a,b,c,d,(λz=>e (Option.some.inj z).symm)⟩⟩
variable {elt tg iter:Expr} {ifs:List Expr} {pos:Pos}
theorem Ji{aD:List (Option Nat)}{wi:TI}{g:TG}{jh:TT}{te:TE}(hc:X.calm=true)(B:ur X scope kx cl N' aD)(hi:PI X tg iter wi)(hg:∀C aw af ex,PG (lJ X scope kx cl N' C aw af ex) tg g)(ht:∀C aw af ex,rG (lJ X scope kx cl N' C aw af ex) ifs jh)(he:∀C aw af ex,PE (lJ X scope kx cl N' C aw af ex) elt te)(hs:∀x,foldedSetIterable iter X.env x=pure x:=by intro _;rfl):PE X (.ListComp elt [⟨tg,iter,ifs,0⟩] scope pos) (ni aD wi g jh te):=zB (own:=some kx) hc B.g hi hg ht he hs
theorem J8{gz pos':Pos}{aD:List (Option Nat)}{wi:TI}{g:TG}{jh:TT}{te:TE}{iz:Nat}{x:Str}(hc:X.calm=true)(B:ur X scope kx cl N' aD)(hi:PI X tg iter wi)(hg:∀C aw af ex,PG (lJ X scope kx cl N' C aw af ex) tg g)(ht:∀C aw af ex,rG (lJ X scope kx cl N' C aw af ex) ifs jh)(he:∀C aw af ex,PE (lJ X scope kx cl N' C aw af ex) elt te)(hN:X.N.Nodup)(ky:X.N[iz]?=some x)(hx:Loc X.env.scope x)(k9:swapsWith (.ListComp elt [⟨tg,iter,ifs,0⟩] scope pos) (some (.Name x pos')) gz.line X.env=pure true)(mQ:X.fn x=true\/X.env.scope.names.lookup x=some .local)(hs:∀x,foldedSetIterable iter X.env x=pure x:=by intro _;rfl):
  PS X (.Assign [.Name x pos'] (.ListComp elt [⟨tg,iter,ifs,0⟩] scope pos) gz) (yO iz aD wi g jh te):=zw (own:=some kx) hc B.g hi hg ht he hN ky hx k9 mQ hs
end
end L2
namespace L3
noncomputable section
open PySem PySem.Spec PyProof.Rows L2
open PySem.W (Dat kqdOk)
variable {X:Cx} {scope:Scope}
theorem B2{tn fv:List Str}{js:List Nat}(kx:Str)(q8:closureFor scope X.env=pure (fv.map λx=>(x,(X.env.cells.lookup x).getD 0)))(XH:∀n,cellsFrom n scope.names (fv.map λx=>(x,(X.env.cells.lookup x).getD 0))=(kx,n)::(fv.map λx=>(x,(X.env.cells.lookup x).getD 0)))(Xo:∀h,pushCells h scope.names=h.push {cls:=.type "cell",data:=.cell none})(hf:∀y∈scope.names,y.2=.free->y.1∈fv)(hc:∀y∈scope.names,y.2=.cell->y.1=kx)(hk:scope.kind=.function)(hn:∀y∈scope.names,y.2=.local->scope.names.lookup y.1=some .local)(nd:(tn++fv).Nodup)(Uj:kx∉fv)(hl:fv.length=js.length)(hs:∀x∈fv,∃c,X.env.cells.lookup x=some c)(hj:∀p∈fv.zip js,X.N[p.2]?=some p.1/\kB X.env.scope p.1/\((relabel scope X.env).names.lookup p.1=some .cell\/(relabel scope X.env).names.lookup p.1=some .free)/\X.env.scope.names.lookup p.1≠some .local):
  ur X scope kx (fv.map λx=>(x,(X.env.cells.lookup x).getD 0)) (tn++fv) ((tn.map λ_=>none)++js.map some):=by
 refine⟨q8,XH,Xo,hk,hn,nd,by rw[length_append,length_append,length_map,length_map,hl],?_,λy c h=>?_,λy h=>?_,λi x j e1 e2=>?_⟩
 ·cases e:(fv.map λx=>(x,(X.env.cells.lookup x).getD 0)).lookup kx with
  |none=>rfl
  |some c=>exact absurd (jU e).1 Uj
 ·obtain⟨h1,h2⟩:=jU h;obtain⟨c',e⟩:=hs y h1;rw[h2,e];rfl
 ·have hm:(y,NameKind.cell)∈(relabel scope X.env).names\/(y,NameKind.free)∈(relabel scope X.env).names:=h.elim (λz=>.inl (PySem.mem_of_lookup z)) λz=>.inr (PySem.mem_of_lookup z);have:y=kx\/y∈fv:=by
   rcases hm with hm|hm;all_goals
    obtain⟨⟨n,k⟩,hp,e⟩:=mem_map.mp hm;dsimp only at e;split at e
    ·rename_i Ej;have hk:k=.free:=by
      cases k<;>first|rfl|(simp at Ej)
     first
      |(cases e;done)
      |(cases e;exact .inr (hf _ hp hk))
    ·first
      |(cases e;done)
      |(cases e;exact .inl (hc _ hp rfl))
      |(cases e;exact .inr (hf _ hp rfl))
  exact this.imp id λz=>⟨_,qO z⟩
 ·by_cases hi:i<tn.length
  ·rw[getElem?_append_left (by rw[length_map];exact hi),getElem?_map,getElem?_eq_getElem hi]at e2;cases e2
  ·rw[getElem?_append_right (by omega)]at e1;rw[getElem?_append_right (by rw[length_map];omega),length_map,getElem?_map]at e2;cases ej:js[i-tn.length]? with
   |none=>rw[ej]at e2;cases e2
   |some j'=>
    rw[ej]at e2;cases e2;have h3:(fv.zip js)[i-tn.length]?=some (x,j):=by rw[List.getElem?_zip_eq_some];exact⟨e1,ej⟩
    obtain⟨a,b,c,d⟩:=hj (x,j) (mem_of_getElem? h3);exact⟨a,b,c,d,λz=>Uj (z▸mem_of_getElem? e1)⟩
variable {ifs:List Expr} {iter tg elt:Expr} {gt:Dat->Option cI} {pos:Pos} {fi:ax->Option (List Dat)} {ft:ax->Option Bool} {fe:ax->Option Dat}
theorem Bn{kx:Str}{cl:List (Str×Addr)}{N':List Str}{aD:List (Option Nat)}(hc:X.calm=true)(B:ur X scope kx cl N' aD)(hi:rF X tg iter fi)(hg:∀C aw af ex,QG (lJ X scope kx cl N' C aw af ex) tg (fW X.K gt))(ht:∀C aw af ex,rE (lJ X scope kx cl N' C aw af ex) ifs (iC X.K ft))(he:∀C aw af ex,QF (lJ X scope kx cl N' C aw af ex) elt fe)(hT:iU gt aD)(hs:∀x,foldedSetIterable iter X.env x=pure x:=by intro _;rfl):QE X (.ListComp elt [⟨tg,iter,ifs,0⟩] scope pos) (ko X.K (gh aD gt ft fe fi)):=⟨bo (Ji hc B hi.o (λC aw af ex=>(hg C aw af ex).o) (λC aw af ex=>(ht C aw af ex).o) (λC aw af ex=>(he C aw af ex).o) hs) (rO hT)⟩
theorem DR(i:Nat){x:Str}{pos' gz:Pos}{kx:Str}{cl:List (Str×Addr)}{N':List Str}{aD:List (Option Nat)}(hN:X.N.Nodup)(hc:X.calm=true)(B:ur X scope kx cl N' aD)(hi:rF X tg iter fi)(hg:∀C aw af ex,QG (lJ X scope kx cl N' C aw af ex) tg (fW X.K gt))(ht:∀C aw af ex,rE (lJ X scope kx cl N' C aw af ex) ifs (iC X.K ft))(he:∀C aw af ex,QF (lJ X scope kx cl N' C aw af ex) elt fe)(hT:iU gt aD)(gM:i≠0:=by decide)(ky:X.N[i]?=some x:=by rfl)(hx:Loc X.env.scope x:=by first|exact .inl rfl|exact .inr rfl)(k9:swapsWith (.ListComp elt [⟨tg,iter,ifs,0⟩] scope pos) (some (.Name x pos')) gz.line X.env=pure true:=by rfl)(mQ:X.fn x=true\/X.env.scope.names.lookup x=some .local:=by first|exact .inl rfl|exact .inr rfl)(hs:∀x,foldedSetIterable iter X.env x=pure x:=by intro _;rfl):
  dY X (.Assign [.Name x pos'] (.ListComp elt [⟨tg,iter,ifs,0⟩] scope pos) gz) (oZ i (gh aD gt ft fe fi)):=⟨bM (J8 hc B hi.o (λC aw af ex=>(hg C aw af ex).o) (λC aw af ex=>(ht C aw af ex).o) (λC aw af ex=>(he C aw af ex).o) hN ky hx k9 mQ hs) λD σ H aM=>by
 obtain⟨af,Av,pn,aC,Γ,fl,⟨ad,G⟩,hf,q⟩:=aM;obtain⟨ds,e1,hf⟩:=aT hf;subst hf;exact rO hT σ H _ ⟨bz Av Γ ad,bG Γ,ds,G.gu,G.jc,e1,λH1 p xs s hp r=>q _ _ ⟨_,(G.grow s).yU i gM hp r⟩⟩⟩
end
end L3
namespace FM
noncomputable section
def zT:En->Rat->Prop
 |none,_=>False
 |some (_,v),c=>v<=c
def Cs:En->Rat->Prop
 |none,_=>False
 |some (s,v),c=>v<c\/(v=c/\s=true)
structure jg (S:Rat->Prop) (E:En):Prop where
 le:∀c,(∀t,S t->t<=c)↔zT E c
 lt:∀c,(∀t,S t->t<c)↔Cs E c
variable {S:Rat->Prop} {E:En}
theorem jg.uniq{E':En}(h1:jg S E)(h2:jg S E'):E=E':=by
 have hl:∀c,zT E c↔zT E' c:=λc=>(h1.le c).symm.trans (h2.le c);have ht:∀c,Cs E c↔Cs E' c:=λc=>(h1.lt c).symm.trans (h2.lt c);match E,E' with
 |none,none=>rfl
 |none,some (s,v)=>exact((hl v).mpr (Rat.le_refl (a:=v))).elim
 |some (s,v),none=>exact((hl v).mp (Rat.le_refl (a:=v))).elim
 |some (s,v),some (s',v')=>
  have a:v'<=v:=(hl v).mp (Rat.le_refl (a:=v));have b:v<=v':=(hl v').mpr (Rat.le_refl (a:=v'));have e:v=v':=by grind
  subst e;have q:=ht v;have nl:¬v<v:=Rat.lt_irrefl;have q':(v<v\/(v=v/\s=true))↔(v<v\/(v=v/\s'=true)):=q;have:s=s':=by cases s<;>cases s'<;>simp_all
  rw[this]
theorem jg.congr{S':Rat->Prop}(h:jg S E)(e:∀t,S t↔S' t):jg S' E:=by
 have:S=S':=funext λt=>propext (e t);rw[<- this];exact h
variable {p:En×En}
theorem uz(hn:∃t,In p t):jg (In p) p.2:=by
 obtain⟨t0,h0⟩:=hn;obtain⟨l,g⟩:=p;match g with
 |none=>
  have big:∀c,∃t,In (l,none) t/\c<t:=λc=>by
   by_cases h:c<t0+1
   ·exact⟨t0+1,⟨iX,h0.2.up (by grind)⟩,h⟩
   ·exact⟨c+1,⟨iX,h0.2.up (by grind)⟩,by grind⟩
  refine⟨λc=>⟨λh=>?_,λh=>h.elim⟩,λc=>⟨λh=>?_,λh=>h.elim⟩⟩
  ·obtain⟨t,i,z⟩:=big c;exact absurd (h t i) (not_le.mpr z)
  ·obtain⟨t,i,z⟩:=big c;exact absurd (le_of_lt (h t i)) (not_le.mpr z)
 |some (s,v)=>
  have hv:=dU.mp h0.1;have mid:∀c,c<v->∃t,In (l,some (s,v)) t/\c<t:=λc hc=>by
   by_cases h:c<t0
   ·exact⟨t0,h0,h⟩
   ·refine⟨(c+v)/2,⟨dU.mpr ⟨by grind,λ_=>by grind⟩,h0.2.up (by grind)⟩,by grind⟩
  refine⟨λc=>⟨λh=>?_,λh t i=>?_⟩,λc=>⟨λh=>?_,λh t i=>?_⟩⟩
  ·refine Rat.not_lt.mp λz=>?_;obtain⟨t,i,q⟩:=mid c z;exact absurd (h t i) (not_le.mpr q)
  ·have:=(dU.mp i.1).1;have h':v<=c:=h;grind
  ·show v<c\/(v=c/\s=true);by_cases z:c<v
   ·obtain⟨t,i,q⟩:=mid c z;exact absurd (le_of_lt (h t i)) (not_le.mpr q)
   ·by_cases e:v=c
    ·cases s with
     |true=>exact .inr ⟨e,rfl⟩
     |false=>
      have i:In (l,some (false,v)) v:=⟨dU.mpr ⟨Rat.le_refl,λz=>by cases z⟩,h0.2.up hv.1⟩;exact .inl (h v i)
    ·exact .inl (by grind)
  ·obtain⟨a,b⟩:=dU.mp i.1;rcases(show v<c\/(v=c/\s=true)from h)with h|⟨h,z⟩
   ·grind
   ·have:=b z;grind
def ig:En->En->En
 |some (a,u),some (b,v)=>some (a || b,u+v)
 |_,_=>none
theorem Mj{T:Rat->Prop}{G:En}(nS:∃t,S t)(nT:∃t,T t)(hS:jg S E)(hT:jg T G):jg (λt=>∃a b,S a/\T b/\t=a+b) (ig E G):=by
 obtain⟨s0,i0⟩:=nS;obtain⟨t0,j0⟩:=nT;have hle:∀c,(∀t,(∃a b,S a/\T b/\t=a+b)->t<=c)↔∀b,T b->zT E (c-b):=λc=>⟨λh b hb=>(hS.le _).mp λa ha=>by have:=h _ ⟨a,b,ha,hb,rfl⟩;grind,λh t ⟨a,b,ha,hb,e⟩=>by have:=(hS.le _).mpr (h b hb) a ha;grind⟩;have dw:∀c,(∀t,(∃a b,S a/\T b/\t=a+b)->t<c)↔∀b,T b->Cs E (c-b):=λc=>⟨λh b hb=>(hS.lt _).mp λa ha=>by have:=h _ ⟨a,b,ha,hb,rfl⟩;grind,λh t ⟨a,b,ha,hb,e⟩=>by have:=(hS.lt _).mpr (h b hb) a ha;grind⟩;match E with
 |none=>exact⟨λc=>(hle c).trans ⟨λh=>h t0 j0,λh=>h.elim⟩,λc=>(dw c).trans ⟨λh=>h t0 j0,λh=>h.elim⟩⟩
 |some (s,u)=>
  have k1:∀c,(∀b,T b->zT (some (s,u)) (c-b))↔zT G (c-u):=λc=>(show(∀b,T b->u<=c-b)↔(∀b,T b->b<=c-u)from⟨λh b hb=>by have:=h b hb;grind,λh b hb=>by have:=h b hb;grind⟩).trans (hT.le _);have k2:∀c,(∀b,T b->Cs (some (s,u)) (c-b))↔if s=true then zT G (c-u)else Cs G (c-u):=λc=>by
   cases s with
   |true=>exact(show(∀b,T b->(u<c-b\/(u=c-b/\true=true)))↔(∀b,T b->b<=c-u)from⟨λh b hb=>by rcases h b hb with z|⟨z,_⟩<;>grind,λh b hb=>by
     have:=h b hb;by_cases e:u=c-b
     ·exact .inr ⟨e,rfl⟩
     ·exact .inl (by grind)⟩).trans (hT.le _)
   |false=>exact(show(∀b,T b->(u<c-b\/(u=c-b/\false=true)))↔(∀b,T b->b<c-u)from⟨λh b hb=>by rcases h b hb with z|⟨_,z⟩;(· grind);(· cases z),λh b hb=>.inl (by have:=h b hb;grind)⟩).trans (hT.lt _)
  match G with
  |none=>
   refine⟨λc=>(hle c).trans (k1 c),λc=>(dw c).trans ((k2 c).trans ?_)⟩;cases s<;>exact Iff.rfl
  |some (s',v)=>
   refine⟨λc=>(hle c).trans ((k1 c).trans (show v<=c-u↔u+v<=c from⟨λh=>by grind,λh=>by grind⟩)),λc=>(dw c).trans ((k2 c).trans ?_)⟩;cases s with
   |true=>exact show v<=c-u↔(u+v<c\/(u+v=c/\(true || s')=true))from⟨λh=>by
     by_cases e:u+v=c
     ·exact .inr ⟨e,rfl⟩
     ·exact .inl (by grind),λh=>by rcases h with h|⟨h,_⟩<;>grind⟩
   |false=>exact show(v<c-u\/(v=c-u/\s'=true))↔(u+v<c\/(u+v=c/\(false || s')=true))from⟨λh=>by
     rcases h with h|⟨h,z⟩
     ·exact .inl (by grind)
     ·exact .inr ⟨by grind,z⟩,λh=>by
     rcases h with h|⟨h,z⟩
     ·exact .inl (by grind)
     ·exact .inr ⟨by grind,z⟩⟩
def tD (c:Rat) (p:En×En):En:=if c=0 then some (false,0)else if 0<c then scale c p.2 else scale c p.1
theorem Mi{c:Rat}(hn:∃t,In p t):jg (λt=>∃y,In p y/\t=c*y) (tD c p):=by
 unfold tD;by_cases c0:c=0
 ·rw[if_pos c0];subst c0;obtain⟨y,hy⟩:=hn;have e:∀t:Rat,(∃y,In p y/\t=0*y)↔t=0:=λt=>⟨fun⟨y,_,h⟩=>by grind,λh=>⟨y,hy,by grind⟩⟩;exact⟨λc=>⟨λh=>h 0 ((e 0).mpr rfl),λh t ht=>by rw[(e t).mp ht];exact h⟩,λc=>⟨λh=>.inl (h 0 ((e 0).mpr rfl)),λh t ht=>by
   rw[(e t).mp ht];rcases(show 0<c\/(0=c/\false=true)from h)with h|⟨_,h⟩
   ·exact h
   ·cases h⟩⟩
 ·rw[if_neg c0];by_cases cp:0<c
  ·rw[if_pos cp];have e:∀t,In (scale c p.1,scale c p.2) t↔∃y,In p y/\t=c*y:=λt=>⟨λh=>by
     have et:t=c*(t/c):=by grind
     rw[et]at h;exact⟨t/c,⟨(yL cp _ _).mp h.1,(zQ cp _ _).mp h.2⟩,et⟩,fun⟨y,h,e⟩=>by rw[e];exact⟨(yL cp _ _).mpr h.1,(zQ cp _ _).mpr h.2⟩⟩
   obtain⟨y,hy⟩:=hn;exact(uz (p:=(scale c p.1,scale c p.2)) ⟨c*y,(e _).mpr ⟨y,hy,rfl⟩⟩).congr e
  ·rw[if_neg cp];have cn:c<0:=by grind
   have e:∀t,In (scale c p.2,scale c p.1) t↔∃y,In p y/\t=c*y:=λt=>⟨λh=>by
     have et:t=c*(t/c):=by grind
     rw[et]at h;exact⟨t/c,⟨(xx cn _ _).mp h.2,(wZ cn _ _).mp h.1⟩,et⟩,fun⟨y,h,e⟩=>by rw[e];exact⟨(wZ cn _ _).mpr h.2,(xx cn _ _).mpr h.1⟩⟩
   obtain⟨y,hy⟩:=hn;exact(uz (p:=(scale c p.2,scale c p.1)) ⟨c*y,(e _).mpr ⟨y,hy,rfl⟩⟩).congr e
def uc (s:Nat->Rat) (b:Nat->En×En):Nat->En
 |0=>some (false,0)
 |k+1=>ig (uc s b k) (tD (s k) (b k))
variable {b:Nat->En×En} {n:Nat}
theorem Im{s:Nat->Rat}(hn:∀k,k<n->∃t,In (b k) t):∃y:Nat->Rat,∀k,k<n->In (b k) (y k):=by
 induction n with
 |zero=>exact⟨λ_=>0,λk h=>absurd h (by omega)⟩
 |succ n ih=>
  obtain⟨y,hy⟩:=ih λk h=>hn k (by omega);obtain⟨t,ht⟩:=hn n (by omega);refine⟨λk=>if k=n then t else y k,λk h=>?_⟩;by_cases e:k=n
  ·show In (b k) (if k=n then t else y k);rw[if_pos e,e];exact ht
  ·show In (b k) (if k=n then t else y k);rw[if_neg e];exact hy k (by omega)
theorem vN{s:Nat->Rat}{b:Nat->En×En}:∀{n:Nat},(∀k,k<n->∃t,In (b k) t)->jg (λt=>∃y:Nat->Rat,(∀k,k<n->In (b k) (y k))/\t=sm n λk=>s k*y k) (uc s b n)
 |0,_=>by
  have e:∀t:Rat,t=0↔(∃y:Nat->Rat,(∀k,k<0->In (b k) (y k))/\t=sm 0 λk=>s k*y k):=λt=>⟨λh=>⟨λ_=>0,λk h=>absurd h (by omega),h⟩,fun⟨_,_,h⟩=>h⟩;refine jg.congr (S:=λt=>t=0) ⟨λc=>⟨λh=>h 0 rfl,λh t ht=>?_⟩,λc=>⟨λh=>.inl (h 0 rfl),λh t ht=>?_⟩⟩ e
  ·rw[show t=0 from ht];exact h
  ·rw[show t=0 from ht];rcases(show 0<c\/(0=c/\false=true)from h)with h|⟨_,h⟩
   ·exact h
   ·cases h
 |n+1,hn=>by
  have h1:∀k,k<n->∃t,In (b k) t:=λk h=>hn k (by omega);obtain⟨y0,Lc⟩:=Im (s:=s) h1;obtain⟨t0,Xh⟩:=hn n (by omega);refine(Mj ⟨_,y0,Lc,rfl⟩ ⟨_,t0,Xh,rfl⟩ (vN (s:=s) h1) (Mi (c:=s n) (hn n (by omega)))).congr λt=>⟨?_,?_⟩
  ·rintro⟨a,c,⟨y,hy,rfl⟩,⟨z,hz,rfl⟩,rfl⟩;refine⟨λk=>if k=n then z else y k,λk h=>?_,?_⟩
   ·by_cases e:k=n
    ·show In (b k) (if k=n then z else y k);rw[if_pos e,e];exact hz
    ·show In (b k) (if k=n then z else y k);rw[if_neg e];exact hy k (by omega)
   ·show _=sm n (λk=>s k*(if k=n then z else y k))+s n*(if n=n then z else y n);rw[if_pos rfl,aE (f:=λk=>s k*(if k=n then z else y k)) (g:=λk=>s k*y k) λi hi=>by show s i*(if i=n then z else y i)=_;rw[if_neg (by omega)]]
  ·rintro⟨y,hy,rfl⟩;exact⟨_,_,⟨y,λk h=>hy k (by omega),rfl⟩,⟨y n,hy n (by omega),rfl⟩,rfl⟩
def jv (g:En):En:=g.map λb=>(b.1,-b.2)
theorem neg_neg(g:En):jv (jv g)=g:=by
 match g with
 |none=>rfl
 |some (s,v)=>show some (s,- - v)=_;rw[Rat.neg_neg]
theorem uv{g:En}{t:Rat}:mB (jv g) t↔jZ g (-t):=by
 match g with
 |none=>exact⟨λ_=>kP,λ_=>iX⟩
 |some (s,v)=>exact(dU (s:=s) (v:=-v)).trans ((show(t<=-v/\(s=true->t < -v))↔(v<=-t/\(s=true->v < -t))from⟨λh=>⟨by grind,λz=>by have:=h.2 z;grind⟩,λh=>⟨by grind,λz=>by have:=h.2 z;grind⟩⟩).trans ia.symm)
theorem uP{g:En}{t:Rat}:jZ (jv g) t↔mB g (-t):=by
 have:=uv (g:=jv g) (t:=-t);rw[neg_neg,Rat.neg_neg]at this;exact this.symm
def uq (S:Rat->Prop) (E:En):Prop:=jg (λt=>S (-t)) (jv E)
theorem Rq(hn:∃t,In p t):uq (In p) p.1:=by
 obtain⟨t,h⟩:=hn;refine(uz (p:=(jv p.2,jv p.1)) ⟨-t,uv.mpr (by rw[Rat.neg_neg];exact h.2),uP.mpr (by rw[Rat.neg_neg];exact h.1)⟩).congr λt=>⟨λh=>⟨uP.mp h.2,uv.mp h.1⟩,λh=>⟨uv.mpr h.2,uP.mpr h.1⟩⟩
theorem uq.uniq{E':En}(h1:uq S E)(h2:uq S E'):E=E':=by
 have:=jg.uniq h1 h2;rw[<- neg_neg E,this,neg_neg]
def vR (c:Rat) (p:En×En):En:=if c=0 then some (false,0)else if 0<c then scale c p.1 else scale c p.2
def rf (s:Nat->Rat) (b:Nat->En×En):Nat->En
 |0=>some (false,0)
 |k+1=>ig (rf s b k) (vR (s k) (b k))
theorem xr(c:Rat)(g:En):jv (scale c g)=scale (-c) g:=by
 match g with
 |none=>rfl
 |some (s,v)=>show some (s,-(c*v))=some (s,-c*v);rw[show -(c*v)=-c*v by grind]
theorem Ju(c:Rat)(p:En×En):jv (vR c p)=tD (-c) p:=by
 unfold vR tD;by_cases c0:c=0
 ·rw[if_pos c0,if_pos (by grind)];rfl
 ·rw[if_neg c0,if_neg (show ¬ -c=0 by grind)];by_cases cp:0<c
  ·rw[if_pos cp,if_neg (show ¬0 < -c by grind),xr]
  ·rw[if_neg cp,if_pos (show 0 < -c by grind),xr]
theorem neg_add(g h:En):jv (ig g h)=ig (jv g) (jv h):=by
 match g,h with
 |none,_=>rfl
 |some _,none=>rfl
 |some (a,u),some (b,v)=>show some (a || b,-(u+v))=some (a || b,-u + -v);rw[show -(u+v)=-u + -v by grind]
theorem zL(s:Nat->Rat)(b:Nat->En×En):∀n,jv (rf s b n)=uc (λk=>-s k) b n
 |0=>rfl
 |n+1=>by
  show jv (ig (rf s b n) (vR (s n) (b n)))=ig _ _;rw[neg_add,zL s b n,Ju]
theorem qr{s y:Nat->Rat}(n:Nat):sm n (λk=>-s k*y k)=-sm n (λk=>s k*y k):=by
 rw[show -sm n (λk=>s k*y k)=(-1)*sm n (λk=>s k*y k) by grind,<- bw];exact aE λi _=>by grind
theorem NX{s:Nat->Rat}(hn:∀k,k<n->∃t,In (b k) t):uq (λt=>∃y:Nat->Rat,(∀k,k<n->In (b k) (y k))/\t=sm n λk=>s k*y k) (rf s b n):=by
 unfold uq;rw[zL];refine(vN (s:=λk=>-s k) hn).congr λt=>⟨fun⟨y,h,e⟩=>⟨y,h,?_⟩,fun⟨y,h,e⟩=>⟨y,h,?_⟩⟩
 ·rw[e,qr,Rat.neg_neg]
 ·rw[qr,<- e,Rat.neg_neg]
structure Turn (n:Nat) (N B:Nat->Nat->Rat):Prop where
 nb:∀(y:Nat->Rat) (k:Nat),k<n->sm n (λj=>N k j*sm n (λi=>B j i*y i))=y k
 bn:∀(x:Nat->Rat) (j:Nat),j<n->sm n (λk=>B j k*sm n (λi=>N k i*x i))=x j
def wN (n:Nat) (N:Nat->Nat->Rat) (b:Nat->En×En) (os:List Ol):Prop:=∀x:List Rat,x.length=n->((∀o∈os,cF o x)↔∀k,k<n->In (b k) (sm n λj=>N k j*x.getD j 0))
variable {j:Nat}
theorem qU(f:Nat->Rat)(h:j<n):((List.range n).map f).getD j 0=f j:=by
 rw[getD_eq_getElem?_getD,getElem?_map,getElem?_range h];rfl
def shr (n:Nat) (B:Nat->Nat->Rat) (p:List Rat) (k:Nat):Rat:=sm n λj=>p.getD j 0*B j k
variable {N B:Nat->Nat->Rat} {os:List Ol}
theorem uw{p:List Rat}(T:Turn n N B)(hp:p.length=n)(hs:wN n N b os)(t:Rat):(∃x:List Rat,x.length=p.length/\(∀o∈os,cF o x)/\bI p x=t)↔∃y:Nat->Rat,(∀k,k<n->In (b k) (y k))/\t=sm n λk=>shr n B p k*y k:=by
 have hw:∀(x:List Rat) (y:Nat->Rat),(∀j,j<n->x.getD j 0=sm n λk=>B j k*y k)->bI p x=sm n λk=>shr n B p k*y k:=λx y h=>by
  unfold bI;rw[hp,aE (g:=λj=>sm n λk=>p.getD j 0*(B j k*y k)) λj hj=>by rw[h j hj,<- bw],rP];refine aE λk _=>?_;unfold shr;rw[show sm n (λj=>p.getD j 0*B j k)*y k=y k*sm n (λj=>p.getD j 0*B j k) by grind,<- bw];exact aE λj _=>by grind
 constructor
 ·rintro⟨x,hl,hx,rfl⟩;refine⟨λk=>sm n λj=>N k j*x.getD j 0,(hs x (by rw[hl,hp])).mp hx,hw x _ λj hj=>?_⟩;exact(T.bn (λi=>x.getD i 0) j hj).symm
 ·rintro⟨y,hy,rfl⟩;have hl:((List.range n).map λj=>sm n λk=>B j k*y k).length=n:=by rw[length_map,length_range]
  refine⟨_,by rw[hl,hp],(hs _ hl).mpr λk hk=>?_,hw _ y λj hj=>qU _ hj⟩;rw[aE (g:=λj=>N k j*sm n λi=>B j i*y i) λj hj=>by rw[qU _ hj],T.nb y k hk];exact hy k hk
theorem turned{p:List Rat}(T:Turn n N B)(hp:p.length=n)(hl:∀o∈os,o.2.1.length=n)(hs:wN n N b os)(hb:∀k,k<n->∃t,In (b k) t):
  never p.length (aY p os)=none/\nN p os=uc (shr n B p) b n/\mZ p os=rf (shr n B p) b n:=by
 have lA:∀o∈os,o.2.1.length=p.length:=λo ho=>(hl o ho).trans hp.symm;obtain⟨y0,Lc⟩:=Im (s:=λ_=>0) hb;obtain⟨x,hx,hh,_⟩:=(uw T hp hs _).mpr ⟨y0,Lc,rfl⟩;have hn:never p.length (aY p os)=none:=by
  cases e:never p.length (aY p os)with
  |none=>rfl
  |some ws=>exact absurd hh (Js lA e x)
 have hw:∀t,In (mZ p os,nN p os) t↔∃y:Nat->Rat,(∀k,k<n->In (b k) (y k))/\t=sm n λk=>shr n B p k*y k:=λt=>(Ob lA hn t).symm.trans (uw T hp hs t);have cx:∃t,In (mZ p os,nN p os) t:=⟨_,(hw _).mpr ⟨y0,Lc,rfl⟩⟩;refine⟨hn,?_,?_⟩
 ·exact((uz cx).congr hw).uniq (vN hb)
 ·exact(show uq _ (mZ p os)from jg.congr (Rq cx) λt=>hw (-t)).uniq (NX hb)
theorem Turn.congr{N' B':Nat->Nat->Rat}(T:Turn n N B)(hN:∀i j,i<n->j<n->N' i j=N i j)(hB:∀i j,i<n->j<n->B' i j=B i j):Turn n N' B':=by
 refine⟨λy k hk=>?_,λx j hj=>?_⟩
 ·rw[<- T.nb y k hk];refine aE λj hj=>?_;rw[hN k j hk hj];congr 1
  exact aE λi hi=>by rw[hB j i hj hi]
 ·rw[<- T.bn x j hj];refine aE λk hk=>?_;rw[hB j k hj hk];congr 1
  exact aE λi hi=>by rw[hN k i hk hi]
variable {k:Nat}
theorem Turn.neg(T:Turn n N B)(hk:k<n):Turn n (λi j=>if i=k then -N k j else N i j) (λi j=>if j=k then -B i k else B i j):=by
 have hb:∀(y:Nat->Rat) (j:Nat),sm n (λl=>(if l=k then -B j k else B j l)*y l)=sm n (λl=>B j l*(if l=k then -y l else y l)):=λy j=>aE λl _=>by
  by_cases e:l=k
  ·rw[if_pos e,if_pos e,e];grind
  ·rw[if_neg e,if_neg e]
 refine⟨λy i hi=>?_,λx j hj=>?_⟩
 ·skip
  rw[aE (g:=λj=>(if i=k then -N k j else N i j)*sm n (λl=>B j l*(if l=k then -y l else y l))) λj _=>by rw[hb]];by_cases e:i=k
  ·subst e;rw[aE (g:=λj=>-N i j*sm n (λl=>B j l*(if l=i then -y l else y l))) λj _=>by rw[if_pos rfl],qr,T.nb (λl=>if l=i then -y l else y l) i hi,if_pos rfl,Rat.neg_neg]
  ·rw[aE (g:=λj=>N i j*sm n (λl=>B j l*(if l=k then -y l else y l))) λj _=>by rw[if_neg e],T.nb (λl=>if l=k then -y l else y l) i hi,if_neg e]
 ·skip
  rw[<- T.bn x j hj];refine aE λl _=>?_;by_cases e:l=k
  ·rw[if_pos e,aE (g:=λi=>-N k i*x i) λi _=>by rw[if_pos e],qr,e];grind
  ·rw[if_neg e,aE (g:=λi=>N l i*x i) λi _=>by rw[if_neg e]]
theorem Mq{f g:Nat->Rat}{p:Nat}{v:Rat}(h:p<n):sm n (λi=>f i*(if i=p then v else g i))=sm n (λi=>f i*g i)+f p*(v-g p):=by
 rw[aE (g:=λi=>(if i=p then v else g i)*f i) λi _=>by grind,uB h,aE (g:=λi=>f i*g i) λi _=>by grind];grind
theorem Turn.add(T:Turn n N B)(hk:k<n)(hj:j<n)(ne:k≠j)(c:Rat):Turn n (λi l=>if i=k then N k l+c*N j l else N i l) (λi l=>if l=j then B i j-c*B i k else B i l):=by
 have hb:∀(y:Nat->Rat) (i:Nat),sm n (λl=>(if l=j then B i j-c*B i k else B i l)*y l)=sm n (λl=>B i l*(if l=k then y k-c*y j else y l)):=λy i=>by
  rw[uB hj,Mq hk];grind
 have hn:∀(x:Nat->Rat) (i:Nat),sm n (λl=>(if i=k then N k l+c*N j l else N i l)*x l)=if i=k then sm n (λl=>N k l*x l)+c*sm n (λl=>N j l*x l)else sm n (λl=>N i l*x l):=λx i=>by
  by_cases e:i=k
  ·rw[if_pos e,aE (g:=λl=>N k l*x l+c*(N j l*x l)) λl _=>by rw[if_pos e];grind,dQ,bw]
  ·rw[if_neg e,aE (g:=λl=>N i l*x l) λl _=>by rw[if_neg e]]
 refine⟨λy i hi=>?_,λx i hi=>?_⟩
 ·skip
  rw[aE (g:=λl=>(if i=k then N k l+c*N j l else N i l)*sm n (λm=>B l m*(if m=k then y k-c*y j else y m))) λl _=>by rw[hb],hn (λl=>sm n (λm=>B l m*(if m=k then y k-c*y j else y m))) i];have t:∀i,i<n->sm n (λl=>N i l*sm n (λm=>B l m*(if m=k then y k-c*y j else y m)))=if i=k then y k-c*y j else y i:=λi hi=>T.nb (λm=>if m=k then y k-c*y j else y m) i hi;rw[t k hk,t j hj,t i hi,if_pos rfl,if_neg (Ne.symm ne)];by_cases e:i=k
  ·rw[if_pos e,e];grind
  ·rw[if_neg e,if_neg e]
 ·skip
  rw[aE (g:=λl=>(if l=j then B i j-c*B i k else B i l)*(if l=k then sm n (λm=>N k m*x m)+c*sm n (λm=>N j m*x m)else sm n (λm=>N l m*x m))) λl _=>by rw[hn],
   hb (λl=>if l=k then sm n (λm=>N k m*x m)+c*sm n (λm=>N j m*x m)else sm n (λm=>N l m*x m)) i,<- T.bn x i hi]
  refine aE λl _=>?_;by_cases e:l=k
  ·rw[if_pos e,if_pos rfl,if_neg (Ne.symm ne),e];grind
  ·rw[if_neg e,if_neg e]
def bO (M:List (List Int)) (i j:Nat):Rat:=(((M.getD i []).getD j 0:Int):Rat)
structure Mt (n t:Nat) (M:List (List Int)):Prop where
 len:M.length=n
 row:∀r∈M,r.length=n
 bd:∀r∈M,∀a∈r,a.natAbs<=3^t
def lz (n:Nat):List (List Int):=(List.range n).map λk=>(List.range n).map λj=>if k=j then 1 else 0
theorem SF(n:Nat):Mt n 0 (lz n):=by
 refine⟨by unfold lz;rw[length_map,length_range],λr hr=>?_,λr hr a ha=>?_⟩
 ·obtain⟨k,_,rfl⟩:=mem_map.mp hr;rw[length_map,length_range]
 ·obtain⟨k,_,rfl⟩:=mem_map.mp hr;obtain⟨j,_,rfl⟩:=mem_map.mp ha;split<;>decide
variable {i:Nat}
theorem HG(hi:i<n)(hj:j<n):bO (lz n) i j=if i=j then 1 else 0:=by
 unfold bO lz;rw[getD_eq_getElem?_getD (l:=(List.range n).map _) (i:=i),getElem?_map,getElem?_range hi];show(((((List.range n).map λj=>if i=j then(1:Int)else 0).getD j 0:Int)):Rat)=_;rw[getD_eq_getElem?_getD,getElem?_map,getElem?_range hj];show(((if i=j then(1:Int)else 0):Int):Rat)=_;by_cases e:i=j
 ·rw[if_pos e,if_pos e];rfl
 ·rw[if_neg e,if_neg e];rfl
theorem Mf(n:Nat):Turn n (bO (lz n)) (bO (lz n)):=by
 have t:∀(y:Nat->Rat) (i:Nat),i<n->sm n (λj=>bO (lz n) i j*y j)=y i:=λy i hi=>by
  rw[om (i:=i) hi λc hc ne=>by rw[HG hi hc,if_neg (Ne.symm ne)];grind,HG hi hi,if_pos rfl];grind
 refine⟨λy k hk=>?_,λx j hj=>?_⟩
 ·rw[t (λj=>sm n λi=>bO (lz n) j i*y i) k hk,t y k hk]
 ·rw[t (λj=>sm n λi=>bO (lz n) j i*x i) j hj,t x j hj]
def setAt (r:List Int) (k:Nat) (v:Int):List Int:=r.take k++[v]++r.drop (k+1)
variable {r:List Int}
theorem tx{v:Int}(h:k<r.length):setAt r k v=r.set k v:=by
 unfold setAt;rw[List.set_eq_take_append_cons_drop,if_pos h,append_assoc];rfl
def qM (M:List (List Int)) (k:Nat):List (List Int):=M.set k ((M.getD k []).map λa=>0-a)
def E6 (M:List (List Int)) (k:Nat):List (List Int):=M.map λr=>setAt r k (0-r.getD k 0)
def rB (M:List (List Int)) (k j:Nat) (c:Int):List (List Int):=M.set k (zipWith (λa b=>a+c*b) (M.getD k []) (M.getD j []))
def EC (M:List (List Int)) (k j:Nat) (c:Int):List (List Int):=M.map λr=>setAt r j (r.getD j 0-c*r.getD k 0)
variable {t:Nat} {M:List (List Int)}
theorem Mt.get(h:Mt n t M)(hk:k<n):M.getD k []∈M:=by
 rw[getD_eq_getElem?_getD,getElem?_eq_getElem (by rw[h.len];exact hk)];exact getElem_mem _
theorem getD_mem(h:j<r.length):r.getD j 0∈r:=by
 rw[getD_eq_getElem?_getD,getElem?_eq_getElem h];exact getElem_mem _
variable {α:Type}
theorem xI{l:List α}{v d:α}(h:k<l.length):(l.set k v).getD i d=if i=k then v else l.getD i d:=by
 rw[getD_eq_getElem?_getD,getD_eq_getElem?_getD];by_cases e:i=k
 ·rw[if_pos e,e,getElem?_set_self h];rfl
 ·rw[if_neg e,getElem?_set_ne (Ne.symm e)]
variable {a:Int}
theorem kE(h:a.natAbs<=3^t):a.natAbs<=3^(t+1):=by
 have:3^(t+1)=3*3^t:=by rw[pow_succ];omega
 omega
theorem SE(h:Mt n t M):Mt n (t+1) M:=⟨h.len,h.row,λr hr a ha=>kE (h.bd r hr a ha)⟩
theorem GH{s:Nat}(h:Mt n s M):∀{t:Nat},s<=t->Mt n t M:=fun{t} hs=>by
 induction hs with
 |refl=>exact h
 |step _ ih=>exact SE ih
theorem Na(h:Mt n t M)(hk:k<n):Mt n (t+1) (qM M k):=by
 have hm:=h.get hk;refine⟨by unfold qM;rw[length_set,h.len],λr hr=>?_,λr hr a ha=>?_⟩
 ·rcases List.mem_or_eq_of_mem_set hr with hr|rfl
  ·exact h.row r hr
  ·rw[length_map];exact h.row _ hm
 ·rcases List.mem_or_eq_of_mem_set hr with hr|rfl
  ·exact kE (h.bd r hr a ha)
  ·obtain⟨b,hb,rfl⟩:=mem_map.mp ha;have:=h.bd _ hm b hb;exact kE (by omega)
theorem Nc(h:Mt n t M)(hk:k<n)(hj:j<n){c:Int}(hc:c.natAbs<=2):Mt n (t+1) (rB M k j c):=by
 have hm:=h.get hk;have Lj:=h.get hj;refine⟨by unfold rB;rw[length_set,h.len],λr hr=>?_,λr hr a ha=>?_⟩
 ·rcases List.mem_or_eq_of_mem_set hr with hr|rfl
  ·exact h.row r hr
  ·rw[length_zipWith,h.row _ hm,h.row _ Lj,min_self]
 ·rcases List.mem_or_eq_of_mem_set hr with hr|rfl
  ·exact kE (h.bd r hr a ha)
  ·obtain⟨p,q,h1,h2,rfl⟩:=GK ha;have a1:=h.bd _ hm p h1;have a2:=h.bd _ Lj q h2;have a3:(p+c*q).natAbs<=p.natAbs+c.natAbs*q.natAbs:=by
    have:=Int.natAbs_add_le p (c*q);rwa[natAbs_mul]at this
   have a4:c.natAbs*q.natAbs<=2*3^t:=mul_le_mul hc a2;have:3^(t+1)=3*3^t:=by rw[pow_succ];omega
   omega
where
 GK:∀{f:Int->Int->Int} {xs ys:List Int} {a:Int},a∈zipWith f xs ys->∃p q,p∈xs/\q∈ys/\a=f p q
  |_,[],_,_,h=>by simp at h
  |_,_::_,[],_,h=>by simp at h
  |f,x::xs,y::ys,a,h=>by
   rw[List.zipWith_cons_cons]at h;rcases mem_cons.mp h with e|h
   ·exact⟨x,y,mem_cons_self,mem_cons_self,e⟩
   ·obtain⟨p,q,h1,h2,e⟩:=GK h;exact⟨p,q,mem_cons_of_mem _ h1,mem_cons_of_mem _ h2,e⟩
theorem Cr(h:Mt n t M){g:List Int->Int}(hk:k<n)(hg:∀r∈M,(g r).natAbs<=3^(t+1)):Mt n (t+1) (M.map λr=>setAt r k (g r)):=by
 refine⟨by rw[length_map,h.len],λr hr=>?_,λr hr a ha=>?_⟩
 ·obtain⟨q,hq,rfl⟩:=mem_map.mp hr;rw[tx (by rw[h.row q hq];exact hk),length_set,h.row q hq]
 ·obtain⟨q,hq,rfl⟩:=mem_map.mp hr;rw[tx (by rw[h.row q hq];exact hk)]at ha;rcases List.mem_or_eq_of_mem_set ha with ha|rfl
  ·exact kE (h.bd q hq a ha)
  ·exact hg q hq
theorem Nb(h:Mt n t M)(hk:k<n):Mt n (t+1) (E6 M k):=Cr h hk λr hr=>by
 have:=h.bd r hr _ (getD_mem (j:=k) (by rw[h.row r hr];exact hk));exact kE (by omega)
theorem Nf(h:Mt n t M)(hk:k<n)(hj:j<n){c:Int}(hc:c.natAbs<=2):Mt n (t+1) (EC M k j c):=Cr h hj λr hr=>by
 have a1:=h.bd r hr _ (getD_mem (j:=j) (by rw[h.row r hr];exact hj));have a2:=h.bd r hr _ (getD_mem (j:=k) (by rw[h.row r hr];exact hk));have a3:(r.getD j 0-c*r.getD k 0).natAbs<=(r.getD j 0).natAbs+c.natAbs*(r.getD k 0).natAbs:=by
  have:=Int.natAbs_sub_le (r.getD j 0) (c*r.getD k 0);rwa[natAbs_mul]at this
 have a4:c.natAbs*(r.getD k 0).natAbs<=2*3^t:=mul_le_mul hc a2;have:3^(t+1)=3*3^t:=by rw[pow_succ];omega
 omega
theorem CW(h:Mt n t M)(hk:k<n):bO (M.set k r) i j=if i=k then((r.getD j 0:Int):Rat)else bO M i j:=by
 unfold bO;rw[xI (by rw[h.len];exact hk)];split<;>rfl
theorem AK(h:Mt n t M){g:List Int->Int}(hk:k<n)(hi:i<n):bO (M.map λr=>setAt r k (g r)) i j=if j=k then((g (M.getD i []):Int):Rat)else bO M i j:=by
 unfold bO;have hM:i<M.length:=by rw[h.len];exact hi
 rw[getD_eq_getElem?_getD (l:=M.map _),getElem?_map,getD_eq_getElem?_getD (l:=M),getElem?_eq_getElem hM];show(((setAt M[i] k (g M[i])).getD j 0:Int):Rat)=if j=k then((g M[i]:Int):Rat)else((M[i].getD j 0:Int):Rat);have hl:k<M[i].length:=by rw[h.row _ (getElem_mem _)];exact hk
 rw[tx hl,xI hl];split<;>rfl
theorem getD_map{f:Int->Int}(h:j<r.length):(r.map f).getD j 0=f (r.getD j 0):=by
 rw[getD_eq_getElem?_getD,getElem?_map,getD_eq_getElem?_getD,getElem?_eq_getElem h];rfl
theorem Nl{f:Int->Int->Int}{q:List Int}(h:j<r.length)(h':j<q.length):(zipWith f r q).getD j 0=f (r.getD j 0) (q.getD j 0):=by
 rw[getD_eq_getElem?_getD,List.getElem?_zipWith,getD_eq_getElem?_getD,getD_eq_getElem?_getD,getElem?_eq_getElem h,getElem?_eq_getElem h'];rfl
theorem IK{C:List (List Int)}(hM:Mt n t M)(hC:Mt n t C)(T:Turn n (bO M) (bO C))(hk:k<n):Turn n (bO (qM M k)) (bO (E6 C k)):=by
 refine(T.neg hk).congr (λi j hi hj=>?_) λi j hi hj=>?_
 ·unfold qM;rw[CW hM hk];by_cases e:i=k
  ·rw[if_pos e,if_pos e,getD_map (by rw[hM.row _ (hM.get hk)];exact hj)];unfold bO;rw[zero_sub];exact intCast_neg _
  ·rw[if_neg e,if_neg e]
 ·unfold E6;rw[AK hC hk hi (g:=λr=>0-r.getD k 0)];by_cases e:j=k
  ·rw[if_pos e,if_pos e];unfold bO;rw[zero_sub];exact intCast_neg _
  ·rw[if_neg e,if_neg e]
theorem IL{C:List (List Int)}(hM:Mt n t M)(hC:Mt n t C)(T:Turn n (bO M) (bO C))(hk:k<n)(hj:j<n)(ne:k≠j)(c:Int):Turn n (bO (rB M k j c)) (bO (EC C k j c)):=by
 refine(T.add hk hj ne (c:Rat)).congr (λi l hi hl=>?_) λi l hi hl=>?_
 ·unfold rB;rw[CW hM hk];by_cases e:i=k
  ·rw[if_pos e,if_pos e,Nl (by rw[hM.row _ (hM.get hk)];exact hl) (by rw[hM.row _ (hM.get hj)];exact hl)];unfold bO;rw[Rat.intCast_add,intCast_mul]
  ·rw[if_neg e,if_neg e]
 ·unfold EC;rw[AK hC hj hi (g:=λr=>r.getD j 0-c*r.getD k 0)];by_cases e:l=j
  ·rw[if_pos e,if_pos e];unfold bO;rw[Rat.intCast_sub,intCast_mul]
  ·rw[if_neg e,if_neg e]
def eJ (c:Rat) (k:Kn) (r:List Int) (b:Rat):Ol:=(k,r.map fun(a:Int)=>c*(a:Rat),c*b)
theorem Fv(c:Rat)(r:List Int)(x:List Rat):bI (r.map fun(a:Int)=>c*(a:Rat)) x=c*sm r.length λj=>((r.getD j 0:Int):Rat)*x.getD j 0:=by
 unfold bI;rw[length_map,<- bw];refine aE λj hj=>?_;rw[getD_eq_getElem?_getD (l:=r.map _),getElem?_map,getD_eq_getElem?_getD (l:=r),getElem?_eq_getElem hj];show c*((r[j]:Int):Rat)*_=c*(((r[j]:Int):Rat)*_);grind
variable {v:Rat} {k:Kn}
theorem My{c u:Rat}(h0:c≠0)(hp:k≠.eq->0<c):rel k (c*u) (c*v)↔rel k u v:=by
 cases k with
 |eq=>exact⟨λh=>by
   have h':c*u=c*v:=h;show u=v;grind,λh=>by show c*u=c*v;rw[show u=v from h]⟩
 |le=>exact jY (hp (by decide))
 |lt=>exact jX (hp (by decide))
variable {x:List Rat}
theorem qR{c b:Rat}(h0:c≠0)(hp:k≠.eq->0<c)(hr:r.length=n):cF (eJ c k r b) x↔rel k (sm n λj=>((r.getD j 0:Int):Rat)*x.getD j 0) b:=by
 unfold cF eJ;rw[Fv,hr];exact My h0 hp
def iN (s:Bool):Kn:=if s=true then .lt else .le
theorem FW{s:Bool}{t:Rat}:rel (iN s) t v↔mB (some (s,v)) t:=by
 rw[dU];cases s with
 |true=>exact⟨λh=>⟨le_of_lt h,λ_=>h⟩,λh=>h.2 rfl⟩
 |false=>exact⟨λh=>⟨h,λz=>by cases z⟩,λh=>h.1⟩
theorem OJ{s:Bool}{t:Rat}:rel (iN s) (-t) (-v)↔jZ (some (s,v)) t:=by
 rw[FW,<- uP (g:=some (s,-v)) (t:=t)];show jZ (some (s,- - v)) t↔_;rw[Rat.neg_neg]
theorem Mr(hr:r.length=n):sm n (λj=>(((r.map λa=>0-a).getD j 0:Int):Rat)*x.getD j 0)=-sm n λj=>((r.getD j 0:Int):Rat)*x.getD j 0:=by
 rw[<- qr];refine aE λj hj=>?_;rw[getD_map (by rw[hr];exact hj),zero_sub,intCast_neg]
abbrev Tl:=Ol×Nat×Int
def EX (n:Nat) (N:List (List Int)) (bx:List (En×En)) (t:Tl):Prop:=
 t.2.1<n/\∃c:Rat,c≠0/\(t.1.1≠.eq->0<c)/\
  ((t.2.2=0/\∃v,bx.getD t.2.1 (none,none)=(some (false,v),some (false,v))/\t.1=eJ c .eq (N.getD t.2.1 []) v)\/
   (t.2.2=1/\∃s v,(bx.getD t.2.1 (none,none)).2=some (s,v)/\t.1=eJ c (iN s) (N.getD t.2.1 []) v)\/
   (t.2.2=-1/\∃s v,(bx.getD t.2.1 (none,none)).1=some (s,v)/\t.1=eJ c (iN s) ((N.getD t.2.1 []).map λa=>0-a) (-v)))
def RL (bx:List (En×En)) (ts:List Tl) (k:Nat):Prop:=(∃t∈ts,t.2=(k,0))\/(((bx.getD k (none,none)).2≠none->∃t∈ts,t.2=(k,1))/\((bx.getD k (none,none)).1≠none->∃t∈ts,t.2=(k,-1)))
structure Bf (n m:Nat) (N:List (List Int)) (bx:List (En×En)) (ts:List Tl):Prop where
 all:∀t∈ts,EX n N bx t
 has:∀k,k<m->RL bx ts k
def yk (n:Nat) (N:List (List Int)) (x:List Rat) (k:Nat):Rat:=sm n λj=>bO N k j*x.getD j 0
theorem pF{t':Nat}{N:List (List Int)}{bx:List (En×En)}{t:Tl}(hN:Mt n t' N)(h:EX n N bx t):cF t.1 x↔(t.2.2=0/\∃v,bx.getD t.2.1 (none,none)=(some (false,v),some (false,v))/\yk n N x t.2.1=v)\/(t.2.2=1/\mB (bx.getD t.2.1 (none,none)).2 (yk n N x t.2.1))\/(t.2.2=-1/\jZ (bx.getD t.2.1 (none,none)).1 (yk n N x t.2.1)):=by
 obtain⟨hk,c,h0,hp,h⟩:=h;have hr:=hN.row _ (hN.get hk);rcases h with⟨e,v,e1,e2⟩|⟨e,s,v,e1,e2⟩|⟨e,s,v,e1,e2⟩
 ·rw[e2]at hp ⊢;rw[qR (k:=.eq) h0 hp hr,e,e1];exact⟨λh=>.inl ⟨rfl,v,rfl,h⟩,λh=>by
   rcases h with⟨_,v',q1,q2⟩|⟨q,_⟩|⟨q,_⟩
   ·cases q1;exact q2
   ·cases q
   ·cases q⟩
 ·rw[e2]at hp ⊢;rw[qR (k:=iN s) h0 hp hr,e,e1,FW];exact⟨λh=>.inr (.inl ⟨rfl,h⟩),λh=>by
   rcases h with⟨q,_⟩|⟨_,q⟩|⟨q,_⟩
   ·cases q
   ·exact q
   ·cases q⟩
 ·rw[e2]at hp ⊢;rw[qR (k:=iN s) (n:=n) h0 hp (by rw[length_map,hr]),Mr hr,e,e1,OJ];exact⟨λh=>.inr (.inr ⟨rfl,h⟩),λh=>by
   rcases h with⟨q,_⟩|⟨q,_⟩|⟨_,q⟩
   ·cases q
   ·cases q
   ·exact q⟩
theorem Jz{t':Nat}{N:List (List Int)}{bx:List (En×En)}{ts:List Tl}(hN:Mt n t' N)(h:Bf n n N bx ts):wN n (bO N) (λk=>bx.getD k (none,none)) (ts.map (·.1)):=λx hx=>by
 have hm:(∀o∈ts.map (·.1),cF o x)↔∀t∈ts,cF t.1 x:=⟨λh t ht=>h _ (mem_map.mpr ⟨t,ht,rfl⟩),λh o ho=>by
  obtain⟨t,ht,rfl⟩:=mem_map.mp ho;exact h t ht⟩
 rw[hm];constructor
 ·intro ha k hk;rcases h.has k hk with⟨t,ht,e⟩|⟨h1,h2⟩
  ·have:=(pF hN (h.all t ht)).mp (ha t ht);rw[e]at this;rcases this with⟨_,v,q1,q2⟩|⟨q,_⟩|⟨q,_⟩
   ·show In (bx.getD k (none,none)) (yk n N x k);rw[q1,q2];exact⟨dU.mpr ⟨Rat.le_refl,λz=>by cases z⟩,ia.mpr ⟨Rat.le_refl,λz=>by cases z⟩⟩
   ·cases q
   ·cases q
  ·refine⟨?_,?_⟩
   ·by_cases e:(bx.getD k (none,none)).2=none
    ·show mB (bx.getD k (none,none)).2 _;rw[e];exact iX
    ·obtain⟨t,ht,et⟩:=h1 e;have:=(pF hN (h.all t ht)).mp (ha t ht);rw[et]at this;rcases this with⟨q,_⟩|⟨_,q⟩|⟨q,_⟩
     ·cases q
     ·exact q
     ·cases q
   ·by_cases e:(bx.getD k (none,none)).1=none
    ·show jZ (bx.getD k (none,none)).1 _;rw[e];exact kP
    ·obtain⟨t,ht,et⟩:=h2 e;have:=(pF hN (h.all t ht)).mp (ha t ht);rw[et]at this;rcases this with⟨q,_⟩|⟨q,_⟩|⟨_,q⟩
     ·cases q
     ·cases q
     ·exact q
 ·intro ha t ht;have hl:=h.all t ht;have hk:=hl.1;have hb:In (bx.getD t.2.1 (none,none)) (yk n N x t.2.1):=ha t.2.1 hk;refine(pF hN hl).mpr ?_;obtain⟨_,c,_,_,hl⟩:=hl;rcases hl with⟨e,v,e1,_⟩|⟨e,_⟩|⟨e,_⟩
  ·refine .inl ⟨e,v,e1,?_⟩;rw[e1]at hb;have a:=(dU.mp hb.1).1;have b:=(ia.mp hb.2).1;grind
  ·exact .inr (.inl ⟨e,hb.1⟩)
  ·exact .inr (.inr ⟨e,hb.2⟩)
theorem BW:∀(n:Nat) (f:Nat->Rat),sm (n+1) f=f 0+sm n λi=>f (i+1)
 |0,f=>by show(0:Rat)+f 0=f 0+0;grind
 |n+1,f=>by
  show sm (n+1) f+f (n+1)=f 0+(sm n (λi=>f (i+1))+f (n+1));rw[BW n f];grind
def rh:List (Rat×Rat)->Rat
 |[]=>0
 |p::l=>p.1*p.2+rh l
theorem wX:∀(p x:List Rat),p.length=x.length->bI p x=rh (p.zip x)
 |[],[],_=>rfl
 |a::p,b::x,h=>by
  have ih:=wX p x (by simpa using h);unfold bI at ih ⊢;rw[length_cons,BW];show a*b+sm p.length (λi=>p.getD i 0*x.getD i 0)=a*b+rh (p.zip x);rw[ih]
 |[],_::_,h=>by simp at h
 |_::_,[],h=>by simp at h
theorem Io(g:En):ig g (some (false,0))=g:=by
 match g with
 |none=>rfl
 |some (s,v)=>show some (s || false,v+0)=_;rw[Bool.or_false,Rat.add_zero]
def pick (sd:Bool) (c:Rat) (p:En×En):En:=if decide (0<c)=sd then p.2 else p.1
def sR (sd:Bool) (c:Rat) (p:En×En):En:=if c=0 then some (false,0)else scale c (pick sd c p)
def jx (sd:Bool) (s:Nat->Rat) (b:Nat->En×En):Nat->En
 |0=>some (false,0)
 |k+1=>ig (jx sd s b k) (sR sd (s k) (b k))
theorem HI(s:Nat->Rat)(b:Nat->En×En):∀n,jx true s b n=uc s b n
 |0=>rfl
 |n+1=>by
  show ig (jx true s b n) (sR true (s n) (b n))=ig (uc s b n) (tD (s n) (b n));rw[HI s b n];unfold sR tD pick;by_cases h:0<s n
  ·simp[h]
  ·simp[h]
theorem HJ(s:Nat->Rat)(b:Nat->En×En):∀n,jx false s b n=rf s b n
 |0=>rfl
 |n+1=>by
  show ig (jx false s b n) (sR false (s n) (b n))=ig (rf s b n) (vR (s n) (b n));rw[HJ s b n];unfold sR vR pick;by_cases h:0<s n
  ·simp[h]
  ·simp[h]
theorem xR{sd:Bool}{s:Nat->Rat}{b:Nat->En×En}{k:Nat}(h:jx sd s b k=none):∀m,jx sd s b (k+m)=none
 |0=>h
 |m+1=>by
  show ig (jx sd s b (k+m)) _=none;rw[xR h m];rfl
theorem vh{sd:Bool}{s s':Nat->Rat}{b b':Nat->En×En}:∀{n:Nat},(∀k,k<n->s k=s' k/\b k=b' k)->jx sd s b n=jx sd s' b' n
 |0,_=>rfl
 |n+1,h=>by
  show ig _ _=ig _ _;rw[vh λk hk=>h k (by omega),(h n (by omega)).1,(h n (by omega)).2]
theorem zP{ps:List Rat}{b q:Rat}(hk:k≠.eq)(hq:0<q)(h:cF (k,ps,b) x):cF (.le,ps,b+q) x:=by
 show bI ps x<=b+q;cases k with
 |eq=>exact absurd rfl hk
 |le=>
  have h':bI ps x<=b:=h;grind
 |lt=>
  have h':bI ps x<b:=h;grind
theorem FK{us:List Ol}(h:wN n N b os)(h1:∀o∈os,o∈us)(h2:∀u∈us,u∈os\/∃o∈os,∀x,cF o x->cF u x):wN n N b us:=λx hx=>(show(∀o∈us,cF o x)↔(∀o∈os,cF o x)from⟨λh o ho=>h o (h1 o ho),λh u hu=>by
 rcases h2 u hu with h3|⟨o,ho,h3⟩
 ·exact h u h3
 ·exact h3 x (h o ho)⟩).trans (h x hx)
end
end FM
set_option maxHeartbeats 4000000
namespace L3
noncomputable section
open PySem PySem.Spec PyProof.Rows L2
open PySem.W (Dat kqdOk)
theorem CU(a b:Int):eqB (.int a) (.int b)=some (decide (a=b)):=by
 have h:eqB (.int a) (.int b)=if kqdOk 9 (.int a)=true/\kqdOk 9 (.int b)=true then some (kf (.int a) (.int b))else none:=rfl;rw[h,if_pos ⟨rfl,rfl⟩];congr 1
 by_cases e:a=b
 ·rw[mV (by rw[e]),decide_eq_true e]
 ·rw[oM (λz=>e (by injection z)),decide_eq_false e]
theorem cG(a b:Int):gi (.int a) (.int b)=some (.bool (decide (a=b))):=by unfold gi;rw[CU];rfl
theorem fT(a b:Int):ix (.int a) (.int b)=some (.bool (!decide (a=b))):=by unfold ix;rw[CU];rfl
theorem cM(a b:Int):DA (.int a) (.int b)=some (.int (a-b)):=gw trivial
theorem fU(a b:Int):L5 (.int a) (.int b)=some (.bool (decide (a<b))):=gw trivial
theorem Cw(a b:Int):TZ (.int a) (.int b)=some (.bool (decide (a<=b))):=gw trivial
theorem ib(a b:Int):CK (.int a) (.int b)=some (.bool (decide (b<a))):=gw trivial
theorem Nn(a b:Int):UC (.int a) (.int b)=some (.bool (decide (b<=a))):=gw trivial
variable {a b:Int}
theorem jw(h:b≠0):zN (.int a) (.int b)=some (.int (a.fmod b)):=gw h
theorem qX(h:b≠0)(_:b.natAbs.log2<9000000):lh (.int a) (.int b)=some (.int (a.fdiv b)):=gw h
theorem pE(h:IntMulOk a b):iM (.int a) (.int b)=some (.int (a*b)):=gw h
theorem bX(a b:Int):kU (.int a) (.int b)=some (.int (a+b)):=rfl
theorem jy(c:Int):EF [.int c]=some (.int (c.natAbs:Int)):=by
 show some (Dat.int (if c<0 then -c else c))=_;congr 2
 split<;>omega
variable {Γ aj:ar} {g2 g1:ar->Option Fl}
theorem aU(h:g1 Γ=some (.nx aj)):cN g1 g2 Γ=g2 aj:=by unfold cN;rw[h];rfl
variable {d:Dat} {f:ax->Option Dat} {i:Nat}
theorem vS(h:f (bG Γ)=some d):gB i f Γ=some (.nx (Γ.set i (some (.a8 d)))):=by unfold gB;rw[h]
variable {ft:ax->Option Bool}
theorem p4(h:ft (bE Γ)=some true):iE ft g1 g2 Γ=g1 Γ:=by unfold iE;rw[h];rfl
theorem uF(h:ft (bE Γ)=some false):iE ft g1 g2 Γ=g2 Γ:=by unfold iE;rw[h];rfl
theorem vU(h:f (bE Γ)=some d):lG f Γ=some (.rt d):=by unfold lG;rw[h];rfl
variable {gb:ar->Option Fl} {n:Nat}
theorem yJ(h:ft (bE Γ)=some false):fB ft gb (n+1) Γ=some (.nx Γ):=by show(ft (bE Γ)).bind _=_;rw[h];rfl
theorem yI(h:ft (bE Γ)=some true)(h2:gb Γ=some (.nx aj)):fB ft gb (n+1) Γ=fB ft gb n aj:=by
 show(ft (bE Γ)).bind _=_;rw[h];show(gb Γ).bind _=_;rw[h2];rfl
variable {ds:List Dat}
theorem cJ{N:List Str}{g:ar->Option Fl}(h:g (cy N ds)=some (.rt d)):jq N g ds=some d:=by unfold jq;rw[h]
open PySem PySem.Spec PyProof.Rows L2
open PySem.W (Dat kqdOk)
theorem fz{gt:Dat->Option cI}{fe:ax->Option Dat}{ik:ax}:∀(aq out:List Dat),aq.length=out.length->(∀(i:Nat) (d o:Dat),aq[i]?=some d->out[i]?=some o->∃as,gt d=some as/\fe (gQ ik as)=some o)->bT gt fK fe ik aq=some out
 |[],[],_,_=>rfl
 |[],_::_,h,_=>by simp at h
 |_::_,[],h,_=>by simp at h
 |d::aq,o::out,h,st=>by
  obtain⟨as,e1,e2⟩:=st 0 d o rfl rfl;have ih:=fz aq out (by simpa using h) λi d' o' h1 h2=>st (i+1) d' o' (by simpa using h1) (by simpa using h2);simp only[bT,e1,Option.bind_some,fK,if_true,e2,ih,map_some]
open PySem PySem.Spec PyProof.Rows L2
open PySem.W (Dat kqdOk)
theorem pL{gt:Dat->Option cI}{gb:ar->Option Fl}{β τ:Type}(enc:β->Dat)(St:τ->ar->Prop)(Q:τ->List β->Prop)(eA:τ->β->τ)(step:∀s p l Γ,Q s (p::l)->St s Γ->∃as,gt (enc p)=some as/\∃aj,gb (setG Γ as)=some (.nx aj)/\St (eA s p) aj/\Q (eA s p) l):∀(l:List β) (s:τ) (Γ:ar),Q s l->St s Γ->∃aj,forL gt gb (l.map enc) Γ=some (.nx aj)/\St (l.foldl eA s) aj
 |[],s,Γ,_,h=>⟨Γ,rfl,h⟩
 |p::l,s,Γ,q,h=>by
  obtain⟨as,e1,Γ1,e2,h1,q1⟩:=step s p l Γ q h;obtain⟨qh,e3,h2⟩:=pL enc St Q eA step l (eA s p) Γ1 q1 h1;refine⟨qh,?_,h2⟩;rw[map_cons];show(gt (enc p)).bind _=_;rw[e1];show(gb (setG Γ as)).bind _=_;rw[e2];exact e3
variable {gt:Dat->Option cI} {β τ:Type}
theorem jL(enc:β->Dat)(St:τ->ar->Prop)(Q:τ->List β->Prop)(eA:τ->β->τ){l:List β}{s:τ}(hf:f (bG Γ)=some d)(hi:dE d=some (l.map enc))(hq:Q s l)(hs:St s Γ)(step:∀s p l Γ,Q s (p::l)->St s Γ->∃as,gt (enc p)=some as/\∃aj,gb (setG Γ as)=some (.nx aj)/\St (eA s p) aj/\Q (eA s p) l):∃aj,vV gt gb f Γ=some (.nx aj)/\St (l.foldl eA s) aj:=by
 obtain⟨aj,e,h⟩:=pL (gt:=gt) (gb:=gb) enc St Q eA step l s Γ hq hs;refine⟨aj,?_,h⟩;unfold vV;rw[hf];show(dE d).bind _=_;rw[hi];exact e
theorem xJ{gt:Dat->Option cI}{gb:ar->Option Fl}{β:Type}(enc:β->Dat)(I:ar->Prop)(p:β->Bool)(rt:β->Dat):∀(l:List β) (Γ:ar),I Γ->(∀x∈l,∀Γ,I Γ->∃as,gt (enc x)=some as/\if p x=true then gb (setG Γ as)=some (.rt (rt x))else ∃aj,gb (setG Γ as)=some (.nx aj)/\I aj)->
  (∃x,l.find? p=some x/\forL gt gb (l.map enc) Γ=some (.rt (rt x)))\/(l.find? p=none/\∃aj,forL gt gb (l.map enc) Γ=some (.nx aj)/\I aj)
 |[],Γ,h,_=>.inr ⟨rfl,Γ,rfl,h⟩
 |x::l,Γ,h,st=>by
  obtain⟨as,e1,e2⟩:=st x mem_cons_self Γ h;by_cases c:p x=true
  ·rw[if_pos c]at e2;refine .inl ⟨x,by rw[List.find?_cons_of_pos c],?_⟩;rw[map_cons];show(gt (enc x)).bind _=_;rw[e1];show(gb (setG Γ as)).bind _=_;rw[e2];rfl
  ·rw[if_neg c]at e2;obtain⟨Γ1,e2,h1⟩:=e2;have e3:forL gt gb ((x::l).map enc) Γ=forL gt gb (l.map enc) Γ1:=by
    rw[map_cons];show(gt (enc x)).bind _=_;rw[e1];show(gb (setG Γ as)).bind _=_;rw[e2];rfl
   rw[e3,List.find?_cons_of_neg c];exact xJ enc I p rt l Γ1 h1 λy hy=>st y (mem_cons_of_mem _ hy)
theorem xK(enc:β->Dat)(I:ar->Prop)(p:β->Bool)(rt:β->Dat){l:List β}{fl:Option β->Fl}(hf:f (bG Γ)=some d)(hi:dE d=some (l.map enc))(hs:I Γ)(st:∀x∈l,∀Γ,I Γ->∃as,gt (enc x)=some as/\if p x=true then gb (setG Γ as)=some (.rt (rt x))else ∃aj,gb (setG Γ as)=some (.nx aj)/\I aj)(h1:∀x,fl (some x)=.rt (rt x))(h2:∀aj,I aj->g2 aj=some (fl none)):
  cN (vV gt gb f) g2 Γ=some (fl (l.find? p)):=by
 have e:vV gt gb f Γ=forL gt gb (l.map enc) Γ:=by
  unfold vV;rw[hf];show(dE d).bind _=_;rw[hi];rfl
 unfold cN;rw[e];rcases xJ enc I p rt l Γ hs st with⟨x,e1,e2⟩|⟨e1,aj,e2,h'⟩
 ·rw[e1,e2,h1];rfl
 ·rw[e1,e2];exact h2 aj h'
theorem jR{fl:Fl}(I:ar->Prop)(h:∃aj,g1 Γ=some (.nx aj)/\I aj)(fin:∀aj,I aj->g2 aj=some fl):cN g1 g2 Γ=some fl:=by
 obtain⟨aj,e,h⟩:=h;unfold cN;rw[e];exact fin aj h
open PySem PySem.Spec PyProof.Rows L2
open PySem.W (Dat kqdOk)
theorem j4{gt:Dat->Option cI}{ft:ax->Option Bool}{fe:ax->Option Dat}{ik:ax}{β:Type}(enc:β->Dat)(JU:β->Dat)(p:β->Bool):∀(l:List β),(∀x∈l,∃as,gt (enc x)=some as/\ft (gQ ik as)=some (p x)/\(p x=true->fe (gQ ik as)=some (JU x)))->bT gt ft fe ik (l.map enc)=some ((l.filter p).map JU)
 |[],_=>rfl
 |x::l,h=>by
  obtain⟨as,e1,e2,e3⟩:=h x mem_cons_self;have ih:=j4 enc JU p l λy hy=>h y (mem_cons_of_mem _ hy);rw[map_cons,bT,e1,Option.bind_some,e2,Option.bind_some,filter_cons];by_cases c:p x=true
  ·rw[if_pos c,if_pos c,e3 c,Option.bind_some,ih];rfl
  ·rw[if_neg c,if_neg c];exact ih
theorem Nv{A:ar->Option Fl}{I J:ar->Prop}(h:∃aj,A Γ=some (.nx aj)/\I aj)(k:∀aj,I aj->J aj):∃aj,A Γ=some (.nx aj)/\J aj:=let ⟨aj,e,i⟩:=h;⟨aj,e,k aj i⟩
open PySem PySem.Spec PyProof.Rows L2
open PySem.W (Dat kqdOk)
variable {fi:ax->Option (List Dat)}
theorem qW(enc:β->Dat)(St:τ->ar->Prop)(Q:τ->List β->Prop)(eA:τ->β->τ){l:List β}{s:τ}(hf:fi (bG Γ)=some (l.map enc))(hq:Q s l)(hs:St s Γ)(step:∀s p l Γ,Q s (p::l)->St s Γ->∃as,gt (enc p)=some as/\∃aj,gb (setG Γ as)=some (.nx aj)/\St (eA s p) aj/\Q (eA s p) l):∃aj,lX gt gb fi Γ=some (.nx aj)/\St (l.foldl eA s) aj:=by
 obtain⟨aj,e,h⟩:=pL (gt:=gt) (gb:=gb) enc St Q eA step l s Γ hq hs;refine⟨aj,?_,h⟩;unfold lX;rw[hf];exact e
variable {out:List Dat}
theorem BY{g:ax->Option (List Dat)}(h:g (bG Γ)=some out):lW i g Γ=some (.nx (Γ.set i (some (.a8 (.list out))))):=by
 unfold lW;rw[h];rfl
variable {ρ:ax}
theorem AW{aD:List (Option Nat)}{fe:ax->Option Dat}(h:fi ρ=some ds)(hl:ds.length<sizeLine)(hc:bT gt ft fe (dh aD ρ) ds=some out):gh aD gt ft fe fi ρ=some out:=by
 unfold gh;rw[h,Option.bind_some,if_pos hl,hc]
theorem kQ{rg:List Dat->Option (List Dat)}{fs:ax->Option (List Dat)}{as:List Dat}(h:fs ρ=some as)(h2:rg as=some ds):zX rg fs ρ=some ds:=by
 unfold zX;rw[h];exact h2
end
end L3
namespace FM
noncomputable section
open PySem
theorem qN{l:List Int}{p:Nat}(h:l.getD p 0≠0):∃x∈l,x≠0:=⟨_,mem_getD h,h⟩
variable {β:Nat->Rat} {E:List Nat} {J:Nat->Bool} {n k j:Nat} {B:Nat->Nat->Rat}
variable {St:Nat->Bool} in
theorem MY{rows:List Row}(hR:Rs n k rows)(S:Sg n k j J St E B β (rows.map (aG n)))(hn:eK j rows=none):
  ∀u∈rows,∀l∈rows,0<ent u j->ent l j<0->∃x∈fF u.2 (-ent l j) l.2 (ent u j),x≠0:=by
 have mem:∀{r:Row},r∈rows->aG n r∈rows.map (aG n):=λh=>mem_map.mpr ⟨_,h,rfl⟩;have pC:∀r∈rows,r.1=.eq->ent r j=0:=λr hr he=>by
  have:=List.find?_eq_none.mp hn r hr;apply Classical.byContradiction
  intro z;exact this (by simp[he,z])
 have kq:∀{r:Row},r∈rows->ent r j≠0->(aG n r).kd≠.eq:=λhr h e=>h (pC _ hr e);intro up hu lo hl pu pl;obtain⟨i,hi,hj,hp⟩:=S.pos (aG n up) (mem hu) (kq hu (by omega));have b:=S.nn (aG n lo) (mem hl) (kq hl (by omega)) i hi hj;have i4:0<ent up (n+2+i):=iO.mp hp;have Qv:0<=ent lo (n+2+i):=by
  have b':(0:Rat)<=(ent lo (n+2+i):Rat):=b;have:((0:Int):Rat)<=(ent lo (n+2+i):Rat):=b';exact Rat.intCast_le_intCast.mp this
 have h1:=Int.mul_pos (show 0 < -ent lo j by omega) i4;have h2:=Int.mul_nonneg (Int.le_of_lt pu) Qv;refine qN (p:=n+2+i) ?_;rw[mN (by rw[hR.len up hu,hR.len lo hl])];have e1:up.2.getD (n+2+i) 0=ent up (n+2+i):=rfl;have e2:lo.2.getD (n+2+i) 0=ent lo (n+2+i):=rfl;rw[e1,e2];omega
variable {St:Nat->Bool} in
theorem S3{rows:List Row}{q r:Row}(hR:Rs n k rows)(S:Sg n k j J St E B β (rows.map (aG n)))(hq:q∈rows)(qe:q.1=.eq)(q0:ent q j≠0)(hr:r∈rows)(cx:r≠q):
  ∃x∈fF r.2 ((ent q j).natAbs:Int) q.2 (if 0<ent q j then -ent r j else ent r j),x≠0:=by
 have mem:∀{r:Row},r∈rows->aG n r∈rows.map (aG n):=λh=>mem_map.mpr ⟨_,h,rfl⟩;have hl:r.2.length=q.2.length:=by rw[hR.len r hr,hR.len q hq]
 have ab:((ent q j).natAbs:Int)≠0:=by omega
 by_cases he:r.1=.eq
 ·obtain⟨p,h1,h2⟩:=hR.DX r hr he;refine qN (p:=p) ?_;rw[mN hl];have e1:q.2.getD p 0=ent q p:=rfl;have e2:r.2.getD p 0=ent r p:=rfl;rw[e1,e2,h2 q hq qe (Ne.symm cx)];have:=mul_ne_zero ab h1;rw[mul_zero];omega
 ·obtain⟨i,hi,hj,hp⟩:=S.pos (aG n r) (mem hr) he;have hz:=S.xN (aG n q) (mem hq) qe i hi hj;have Q7:ent q (n+2+i)=0:=cA.mp hz;have i4:0<ent r (n+2+i):=iO.mp hp;refine qN (p:=n+2+i) ?_;rw[mN hl];have e1:q.2.getD (n+2+i) 0=ent q (n+2+i):=rfl;have e2:r.2.getD (n+2+i) 0=ent r (n+2+i):=rfl;rw[e1,e2,Q7,mul_zero];have:=mul_ne_zero ab (show ent r (n+2+i)≠0 by omega);omega
def bt:Nat->Nat->Nat
 |b,0=>b
 |b,i+1=>bt (2*b+1) i
theorem EA:∀(i b:Nat),b<=bt b i
 |0,b=>le_refl _
 |i+1,b=>le_trans (by omega) (EA i (2*b+1))
def cb:Nat->Nat->Nat
 |r,0=>r
 |r,i+1=>cb (r+r*r/4) i
theorem LP:∀(i r:Nat),r<=cb r i
 |0,r=>le_refl _
 |i+1,r=>le_trans (Nat.le_add_right _ _) (LP i _)
theorem sI:∀(i:Nat) {r s:Nat},r<=s->cb r i<=cb s i
 |0,r,s,h=>h
 |i+1,r,s,h=>sI i (add_le_add h (Nat.div_le_div_right (mul_le_mul h h)))
variable {u:Nat}
theorem quarter{l r:Nat}(h:u+l<=r):u*l<=r*r/4:=by
 rw[Nat.le_div_iff_mul_le (by decide)];have h1:(u+l)*(u+l)<=r*r:=mul_le_mul h h;refine le_trans ?_ h1;rcases Nat.le_total u l with c|c
 ·obtain⟨d,rfl⟩:=Nat.exists_eq_add_of_le c;grind
 ·obtain⟨d,rfl⟩:=Nat.exists_eq_add_of_le c;grind
theorem LF(p q:Row->Bool)(hd:∀r,p r=true->q r=false):∀l:List Row,(l.filter p).length+(l.filter q).length<=l.length
 |[]=>le_refl _
 |r::l=>by
  have ih:=LF p q hd l;rw[filter_cons,filter_cons,length_cons];by_cases c:p r=true
  ·rw[if_pos c,hd r c,if_neg Bool.false_ne_true,length_cons];omega
  ·rw[if_neg c];split
   ·rw[length_cons];omega
   ·omega
theorem zE(rows:List Row)(j:Nat):rows.length+(rows.filter λr=>decide (0<ent r j)).length*(rows.filter λr=>decide (ent r j<0)).length<=rows.length+rows.length*rows.length/4:=
 Nat.add_le_add_left (quarter (LF _ _ (λr h=>by
  have:=of_decide_eq_true h;exact decide_eq_false (by omega)) rows)) _
theorem oE(ks:List Row)(r:Row):(ins ks r).length<=ks.length+1:=by
 unfold ins;split
 ·omega
 ·rw[length_append];exact le_refl _
theorem uY:∀(M l:List Row),(M.foldl ins l).length<=l.length+M.length
 |[],l=>le_refl _
 |r::M,l=>by
  rw[foldl_cons,length_cons];have:=uY M (ins l r);have:=oE l r;omega
theorem AD{α β:Type}(f:α->List β)(c:Nat):∀l:List α,(∀x∈l,(f x).length<=c)->(l.flatMap f).length<=l.length*c
 |[],_=>by simp
 |x::l,h=>by
  rw[List.flatMap_cons,length_append,length_cons,Nat.succ_mul];have:=AD f c l λy hy=>h y (mem_cons_of_mem _ hy);have:=h x mem_cons_self;omega
theorem E4(rows:List Row)(j most:Nat)(aF:List Nat):(paired j aF most rows).length<=rows.length+rows.length*rows.length/4:=by
 have h1:=uY (rows.filter (λr=>decide (ent r j=0))++pairsOf j aF most rows) [];have h2:=zE rows j;have h3:(pairsOf j aF most rows).length<=(rows.filter λr=>decide (0<ent r j)).length*(rows.filter λr=>decide (ent r j<0)).length:=by
  unfold pairsOf;refine AD _ _ _ λx _=>?_;rw[length_map];exact length_filter_le _ _
 have h4:=length_filter_le (λr=>decide (ent r j=0)) rows;rw[length_append]at h1;unfold paired;simp only[length_nil]at h1;omega
theorem Jt(rows:List Row)(j most:Nat)(aF:List Nat):(cZ aF j most rows).length<=rows.length+rows.length*rows.length/4:=by
 unfold cZ;split
 ·exact E4 _ _ _ _
 ·rw[length_map];exact le_trans (length_filter_le _ _) (Nat.le_add_right _ _)
abbrev Nx:=List Row×Nat×List (List Row)
def eA (aF:List Nat) (s:Nx) (j:Nat):Nx:=(cZ aF j s.2.1 s.1,iL j s.2.1 s.1,s.2.2++[s.1])
theorem zc(aF:List Nat):∀(m j most:Nat) (rows:List Row) (acc:List (List Row)),(((range' j m).foldl (eA aF) (rows,most,acc)).2.2++[((range' j m).foldl (eA aF) (rows,most,acc)).1])=acc++lY aF m j most rows
 |0,j,most,rows,acc=>rfl
 |m+1,j,most,rows,acc=>by
  rw[List.range'_succ,foldl_cons];show(((range' (j+1) m).foldl (eA aF) (cZ aF j most rows,iL j most rows,acc++[rows])).2.2++[((range' (j+1) m).foldl (eA aF) (cZ aF j most rows,iL j most rows,acc++[rows])).1])=_;rw[zc aF m (j+1),append_assoc];rfl
end
end FM
namespace L3
noncomputable section
open PySem PySem.Spec PyProof.Rows L2
open PySem.W (Dat kqdOk)
variable {β:Type} {Γ:ar}
theorem Hs{gt:Dat->Option cI}{gb:ar->Option Fl}{rg:List Dat->Option (List Dat)}{fs:ax->Option (List Dat)}{τ:Type}(enc:β->Dat)(St:τ->ar->Prop)(Q:τ->List β->Prop)(eA:τ->β->τ){l:List β}{s:τ}{as:List Dat}(hf:fs (bE Γ)=some as)(hr:rg as=some (l.map enc))(hq:Q s l)(hs:St s Γ)(step:∀s p l Γ,Q s (p::l)->St s Γ->∃as,gt (enc p)=some as/\∃aj,gb (setG Γ as)=some (.nx aj)/\St (eA s p) aj/\Q (eA s p) l):∃aj,uG rg gt gb fs Γ=some (.nx aj)/\St (l.foldl eA s) aj:=by
 obtain⟨aj,e,h⟩:=pL (gt:=gt) (gb:=gb) enc St Q eA step l s Γ hq hs;refine⟨aj,?_,h⟩;unfold uG;rw[hf];show(rg as).bind _=_;rw[hr];exact e
end
end L3
namespace Ve
noncomputable section
open PySem PySem.Spec PyProof.Rows L2 L3
open PySem.W (Dat kqdOk)
local macro_rules | `(~~~$x) => `(some (L3.Slot.a8 $x))
local macro_rules | `(tactic| simp! [$xs,*]) => `(tactic| simp only [jq, cy, cN, gB, iE, lG, ir, qw, bY, o6, L3.f2, L3.f1, aH, fC, aO, bS, kR, o7, iR, d8, vd, pM, xM, qZ, mh, lI, lj, bG, bE, lE, mC, nW, List.map_cons, List.map_nil, List.getElem?_cons_zero, List.getElem?_cons_succ, Option.join_some, Option.bind_some, Option.map_some, List.set_cons_zero, List.set_cons_succ, List.length_cons, List.length_nil, List.cons_append, List.nil_append, List.replicate, Nat.add_sub_cancel, Nat.zero_add, Nat.reduceAdd, Nat.reduceSub, if_true, if_false, Bool.false_eq_true, Bool.not_true, Bool.not_false, decide_true, decide_false, reduceIte, reduceCtorEq, Nat.reduceEqDiff, Nat.reduceLeDiff, oZ, mG, fB, tE, oJ, gd, bf, fL, kc, dE, bT, aName, gQ, dh, List.foldl_cons, List.foldl_nil, Option.map_none, Option.bind_none, List.isEmpty, List.reverse_cons, List.reverse_nil, and_self, and_true, true_and, Option.some.injEq, je, cR, jf, setG, List.append_nil, fM, An, L3.h2, yz, El, pK, fN, JL, Ao, QJ, tW, runM, startM, DH, DM, oY, yZ, qv, lX, GW, zX, me, dP, hL, pW, oh, List.length_set, List.append_eq, $xs,*])
local macro_rules | `(tactic| dsimp! [$xs,*]) => `(tactic| simp only [jq, cy, cN, gB, iE, lG, ir, qw, bY, o6, L3.f2, L3.f1, aH, fC, aO, bS, kR, o7, iR, d8, vd, pM, xM, qZ, mh, lI, lj, bG, bE, lE, mC, nW, List.map_cons, List.map_nil, List.getElem?_cons_zero, List.getElem?_cons_succ, Option.join_some, Option.bind_some, Option.map_some, List.set_cons_zero, List.set_cons_succ, List.length_cons, List.length_nil, List.cons_append, List.nil_append, List.replicate, Nat.add_sub_cancel, Nat.zero_add, Nat.reduceAdd, Nat.reduceSub, if_true, if_false, Bool.false_eq_true, Bool.not_true, Bool.not_false, decide_true, decide_false, reduceIte, reduceCtorEq, Nat.reduceEqDiff, Nat.reduceLeDiff, oZ, mG, fB, tE, oJ, gd, fL, kc, dE, bT, aName, gQ, dh, List.foldl_cons, List.foldl_nil, Option.map_none, Option.bind_none, List.isEmpty, List.reverse_cons, List.reverse_nil, and_self, and_true, true_and, Option.some.injEq, je, cR, jf, setG, List.append_nil, fM, An, L3.h2, yz, El, pK, fN, JL, Ao, QJ, tW, runM, startM, DH, DM, oY, yZ, qv, lX, GW, zX, me, dP, hL, pW, oh, List.length_set, List.append_eq, $xs,*])
local macro_rules | `(tactic| simp!) => `(tactic| simp only [cy, List.map_cons, List.map_nil, List.length_cons, List.length_nil, List.cons_append, List.nil_append, List.replicate])
local macro_rules | `(tactic| dsimp!) => `(tactic| simp only [setG, List.foldl_cons, List.foldl_nil, List.set_cons_succ, List.set_cons_zero])
def top (i:Nat):Stmt:=PySem.Challenge.pw_stepjudge_k29_ranges_of_turned_boxes.main.body.getD i (.Pass ⟨0,0,0,0⟩)
structure TX (P:Program) (K:Fg) (mg:Str->Option Value):Prop where
 seer:wM P K mg
 abs:mg "abs"=none
 len:mg "len"=none
 int:mg "int"=none
 isinstance:mg "isinstance"=none
 tuple:mg "tuple"=none
 bool:mg "bool"=none
 range:mg "range"=none
 zip:mg "zip"=none
 list:mg "list"=none
 str:mg "str"=none
 all:mg "all"=none
 enumerate:mg "enumerate"=none
 max:mg "max"=none
theorem sz{n:Nat}(h:n<=1000):n<=sizeLine:=Nat.le_of_lt (jA h)
def pR:List Dat->Option Dat
 |[.int a,.int b]=>if 0<=a/\0<=b then some (.int (gcd a b))else none
 |_=>none
def SY:ar->Nat
 |_::some (.a8 (.int b))::_=>b.natAbs+1
 |_=>0
abbrev UO:ax->Option Bool:=bY (f2 ix (aH 1) (fC (Dat.int 0)))
abbrev UP:ar->Option Fl:=cN (gB 2 (f2 zN (aH 0) (aH 1))) (cN (gB 0 (aH 1)) (gB 1 (aH 2)))
theorem I0(x z:Option Slot)(b:Int)(r:ar):UO (bE (x::some (.a8 (.int b))::r))=some (!decide (b=0)):=by
 show(ix (.int b) (.int 0)).bind lE=_;rw[fT];rfl
theorem Di:∀(n:Nat) (a b:Int) (r:Option Slot),0<=a->0<=b->b.natAbs<n->∃r',fB UO UP n [~~~.int a,~~~.int b,r]=some (.nx [~~~.int (gcd a b),~~~.int 0,r'])
 |0,_,_,_,_,_,h=>by omega
 |n+1,a,b,r,ha,hb,h=>by
  by_cases e:b=0
  ·subst e;refine⟨r,?_⟩;rw[yJ (by rw[I0 _ none];rfl)];congr
   rw[Int.gcd_zero];omega
  ·have xF:0<=a.fmod b:=Int.fmod_nonneg_of_pos a (by omega);have hm1:a.fmod b<b:=Int.fmod_lt_of_pos a (by omega);have hbody:UP [~~~.int a,~~~.int b,r]=some (.nx [~~~.int b,~~~.int (a.fmod b),~~~.int (a.fmod b)]):=by
    refine(aU (vS (d:=.int (a.fmod b)) (jw e))).trans ?_;refine(aU (vS (d:=.int b) rfl)).trans ?_;exact vS (d:=.int (a.fmod b)) rfl
   obtain⟨r',q⟩:=Di n b (a.fmod b) _ hb xF (by omega);refine⟨r',?_⟩;rw[yI (by rw[I0 _ none,decide_eq_false e];rfl) hbody,q,Fr.Aq a b (by omega)]
variable {w:World} {P:Program} {mg:Str->Option Value} {K:Fg} {base:Heap}
theorem Wv(T:TX P K mg)(U:FnAt K mg "common_divisor" (top 1) ["a","b"]):Dn P w K mg base 41 "common_divisor" ["a","b"] 2 pR:=by
 obtain⟨f,fd,U,hm,hB⟩:=U.ex;have nd:(["a","b","rest"]:List Str).Nodup:=by decide +kernel
 refine iK U hm hB (N:=["a","b","rest"]) ⟨rfl,rfl,rfl,by decide +kernel,rfl,by decide +kernel,by decide +kernel⟩ rfl (λbC A outer s H E hr=>
  (ah (uK SY PassesOwn.never (fS hr (a7 1) ae) (ah (aL 2 nd (kK (a7 0) (a7 1)))
  (ah (aL 0 nd (a7 1))
  (ak (aL 1 nd (a7 2))))))
  (ak (aJ (a7 0))))) ?_
 intro ds d hl hF;unfold pR at hF;split at hF
 ·rename_i a b;split at hF
  ·rename_i h;cases hF;obtain⟨r',q⟩:=Di (b.natAbs+1) a b none h.1 h.2 (by omega);refine cJ ?_;refine(aU q).trans ?_;exact vU rfl
  ·cases hF
 ·cases hF
def f9:List Dat->Option Dat
 |[.int n,.int d]=>if d≠0/\d.natAbs.log2<9000000 then some (.tuple [.int (Fr.num n d),.int (Fr.den n d)])else none
 |_=>none
theorem Ng{a b:Nat}(h:a<=b):a.log2<=b.log2:=by
 by_cases ha:a=0
 ·subst ha;exact zero_le _
 ·rw[Nat.le_log2 (by omega)];exact le_trans (Nat.log2_self_le ha) h
theorem Ri(T:TX P K mg)(gk:Dn P w K mg base 41 "common_divisor" ["a","b"] 2 pR)(U:FnAt K mg "make" (top 2) ["n","d"]):Dn P w K mg base 42 "make" ["n","d"] 2 f9:=by
 obtain⟨f,fd,U,hm,hB⟩:=U.ex;have nd:(["n","d","divisor"]:List Str).Nodup:=by decide +kernel
 refine iK U hm hB (N:=["n","d","divisor"]) ⟨rfl,rfl,rfl,by decide +kernel,rfl,by decide +kernel,by decide +kernel⟩ rfl (λbC A outer s H E hr=>
  (ah (aL 2 nd (aR gk hr (a9 (mw T.abs (a9 (a7 0) ag)) (a9 (mw T.abs (a9 (a7 1) ag)) ag))))
  (ah (bD (mv (a7 1) ae) (ak (aL 2 nd (jF (a7 2)))) ba)
  (ak (aJ (c9 (k:=0) (a9 (g9 T.seer hr (a7 0) (a7 2)) (a9 (g9 T.seer hr (a7 1) (a7 2)) ag)))))))) ?_
 intro ds d' hl hF;unfold f9 at hF;split at hF
 ·rename_i n d;split at hF
  ·rename_i h;cases hF;have e1:pR [.int (n.natAbs:Int),.int (d.natAbs:Int)]=some (.int (gcd n d)):=by
    have z:pR [.int (n.natAbs:Int),.int (d.natAbs:Int)]=if 0<=(n.natAbs:Int)/\0<=(d.natAbs:Int)then some (.int (gcd (n.natAbs:Int) (d.natAbs:Int)))else none:=rfl;rw[z,if_pos ⟨Int.natCast_nonneg _,Int.natCast_nonneg _⟩];simp[gcd]
   have hb:(Fr.dv n d).natAbs.log2<9000000:=by
    rw[Fr.vj];refine lt_of_le_of_lt (Ng ?_) h.2;have:=gcd_dvd_right n d;have:=Int.natAbs_dvd_natAbs.mpr this;exact Nat.le_of_dvd (by omega) (by simpa using this)
   have q1:lh (.int n) (.int (Fr.dv n d))=some (.int (Fr.num n d)):=gw (Fr.yB h.1);have q2:lh (.int d) (.int (Fr.dv n d))=some (.int (Fr.den n d)):=gw (Fr.yB h.1);have z2:2<=sizeLine:=sz (by decide);by_cases hd:d<0
   ·have e2: -(gcd n d:Int)=Fr.dv n d:=by unfold Fr.dv;exact(if_pos hd).symm
    simp only[jq,cy,cN,gB,iE,lG,ir,qw,bY,o6,f2,f1,aH,fC,aO,bS,kR,o7,iR,d8,vd,pM,xM,qZ,mh,lI,lj,bG,bE,lE,mC,nW,map_cons,map_nil,getElem?_cons_zero,getElem?_cons_succ,Option.join_some,Option.bind_some,map_some,set_cons_zero,set_cons_succ,length_cons,length_nil,cons_append,nil_append,List.replicate,add_sub_cancel,zero_add,reduceAdd,reduceSub,if_true,if_false,false_eq_true,Bool.not_true,Bool.not_false,decide_true,decide_false,reduceIte,reduceCtorEq,reduceEqDiff,reduceLeDiff,jy,e1,fU,hd,e2,q1,q2,z2]
   ·have e2:(gcd n d:Int)=Fr.dv n d:=by unfold Fr.dv;exact(if_neg hd).symm
    simp only[jq,cy,cN,gB,iE,lG,ir,qw,bY,o6,f2,f1,aH,fC,aO,bS,kR,o7,iR,d8,vd,pM,xM,qZ,mh,lI,lj,bG,bE,lE,mC,nW,map_cons,map_nil,getElem?_cons_zero,getElem?_cons_succ,Option.join_some,Option.bind_some,map_some,set_cons_zero,set_cons_succ,length_cons,length_nil,cons_append,nil_append,List.replicate,add_sub_cancel,zero_add,reduceAdd,reduceSub,if_true,if_false,false_eq_true,Bool.not_true,Bool.not_false,decide_true,decide_false,reduceIte,reduceCtorEq,reduceEqDiff,reduceLeDiff,jy,e1,fU,hd,e2,q1,q2,z2]
  ·cases hF
 ·cases hF
variable {k:Nat}
theorem log2_small{n:Nat}(hk:0<k)(h:n<2^k):n.log2<k:=by
 by_cases e:n=0
 ·subst e;simpa using hk
 ·exact(Nat.log2_lt e).mpr h
theorem n8(a b:Dat):gH [a,b] 0=some a:=rfl
theorem n6(a b:Dat):gH [a,b] 1=some b:=rfl
variable {b:Int}
theorem wz(a:Int)(h:0<b):0<=a.fmod b/\a.fmod b<b:=⟨Int.fmod_nonneg_of_pos a h,Int.fmod_lt_of_pos a h⟩
theorem mulR(a:Int)(h1: -(2^64)<b)(h2:b<2^64):iM (.int a) (.int b)=some (.int (a*b)):=pE (.of_right (intBits_le_64 h1 h2))
variable {a:Int}
theorem mulL(b:Int)(h1: -(2^64)<a)(h2:a<2^64):iM (.int a) (.int b)=some (.int (a*b)):=pE (.of_left (intBits_le_64 h1 h2))
theorem DY:J9 (.int 10) (.int 18)=some (.int (10^18)):=gw (by unfold F5;decide)
theorem PZ(i:Int):oD "int" (.int i)=some (.bool true):=rfl
theorem Q0(i:Int):oD "bool" (.int i)=some (.bool false):=rfl
theorem SG(ds:List Dat):oD "tuple" (.tuple ds)=some (.bool true):=rfl
theorem SH(x:Str):oD "str" (.str x)=some (.bool true):=rfl
theorem bits_le{x:Int}(hk:0<k)(h:x.natAbs<2^k):Builtin.Int.intBits x<=k:=by
 have:=log2_small hk h;unfold Builtin.Int.intBits;split
 ·exact zero_le _
 ·omega
theorem Ny{x y:Str}(h:x=y):gi (.str x) (.str y)=some (.bool true):=by
 subst h;show some (Dat.bool _)=_;simp
theorem AJ(a b:Bool):gi (.bool a) (.bool b)=some (.bool (a==b)):=rfl
structure Md (x:Int):Prop where
 lt:x.natAbs<2^4000000
theorem pw(a b:Nat):2^a*2^b=2^(a+b):=(pow_add 2 a b).symm
theorem Md.mul(ha:Md a)(hb:Md b):(a*b).natAbs<2^8000000:=by
 rw[natAbs_mul];have h:=Nat.mul_lt_mul'' ha.lt hb.lt;rw[pw]at h;exact h
theorem mulM(ha:Md a)(hb:Md b):iM (.int a) (.int b)=some (.int (a*b)):=
 pE (.of_le (bits_le (k:=4000000) (by decide) ha.lt) (bits_le (k:=4000000) (by decide) hb.lt) (by decide))
theorem E8(ha:a.natAbs<2^9000000)(hb:b.natAbs<2^9000000):iM (.int a) (.int b)=some (.int (a*b)):=
 pE (.of_le (bits_le (k:=9000000) (by decide) ha) (bits_le (k:=9000000) (by decide) hb) (by decide))
theorem kN{n d:Int}(h:d≠0)(hb:d.natAbs<2^8000000):f9 [.int n,.int d]=some (.tuple [.int (Fr.num n d),.int (Fr.den n d)]):=
 if_pos ⟨h,lt_trans (log2_small (k:=8000000) (by decide) hb) (by decide)⟩
structure Gd (p q:Int):Prop where
 pos:0<q
 LO:gcd p q=1
 mp:Md p
 mq:Md q
abbrev fr (p q:Int):Dat:=.tuple [.int p,.int q]
def two (ds:List Dat):Option (Int×Int×Int×Int):=match ds with
 |[.tuple [.int p,.int q],.tuple [.int r,.int s]]=>some (p,q,r,s)
 |_=>none
def mj (g:Int->Int->Int->Int->Option Dat):List Dat->Option Dat:=open Classical in λds=>match ds with
 |[.tuple [.int p,.int q],.tuple [.int r,.int s]]=>if Gd p q/\Gd r s then g p q r s else none
 |_=>none
variable {p:Int}
theorem nc{g:Int->Int->Int->Int->Option Dat}{q r s:Int}(h:Gd p q)(h':Gd r s):mj g [fr p q,fr r s]=g p q r s:=by
 unfold mj;exact if_pos ⟨h,h'⟩
abbrev mk (n d:Int):Dat:=fr (Fr.num n d) (Fr.den n d)
abbrev iW:=mj λp q r s=>some (mk (p*s+r*q) (q*s))
abbrev jP:=mj λp q r s=>some (mk (p*s-r*q) (q*s))
abbrev ic:=mj λp q r s=>some (mk (p*r) (q*s))
abbrev vE:=mj λp q r s=>if r≠0 then some (mk (p*s) (q*r))else none
abbrev kX:=mj λp q r s=>some (.bool (decide (p*s<r*q)))
variable {ds:List Dat}
theorem gy{g:Int->Int->Int->Int->Option Dat}{d:Dat}(h:mj g ds=some d):∃p q r s,ds=[fr p q,fr r s]/\Gd p q/\Gd r s/\g p q r s=some d:=by
 unfold mj at h;split at h
 ·split at h
  ·rename_i hc;exact⟨_,_,_,_,rfl,hc.1,hc.2,h⟩
  ·cases h
 ·cases h
theorem Rc(T:TX P K mg)(ll:Dn P w K mg base 42 "make" ["n","d"] 2 f9)(U:FnAt K mg "plus" (top 3) ["a","b"]):Dn P w K mg base 43 "plus" ["a","b"] 2 iW:=by
 obtain⟨f,fd,U,hm,hB⟩:=U.ex;have nd:(["a","b"]:List Str).Nodup:=by decide +kernel
 refine iK U hm hB (N:=["a","b"]) ⟨rfl,rfl,rfl,by decide +kernel,rfl,by decide +kernel,by decide +kernel⟩ rfl (λbC A outer s H E hr=>
  (ak (aJ (aR ll hr (a9 (cW (bQ (ao (a7 0) ae) (ao (a7 1) ae)) (bQ (ao (a7 1) ae) (ao (a7 0) ae))) (a9 (bQ (ao (a7 0) ae) (ao (a7 1) ae)) ag)))))) ?_
 intro ds d hl hF;obtain⟨p,q,r,s,rfl,g1,g2,e⟩:=gy hF;have z:=mul_ne_zero (ne_of_gt g1.pos) (ne_of_gt g2.pos);cases e;simp only[jq,cy,cN,gB,iE,lG,ir,qw,bY,o6,f2,f1,aH,fC,aO,bS,kR,o7,iR,d8,vd,pM,xM,qZ,mh,lI,lj,bG,bE,lE,mC,nW,map_cons,map_nil,getElem?_cons_zero,getElem?_cons_succ,Option.join_some,Option.bind_some,map_some,set_cons_zero,set_cons_succ,length_cons,length_nil,cons_append,nil_append,List.replicate,add_sub_cancel,zero_add,reduceAdd,reduceSub,if_true,if_false,false_eq_true,Bool.not_true,Bool.not_false,decide_true,decide_false,reduceIte,reduceCtorEq,reduceEqDiff,reduceLeDiff,oZ,mG,fB,tE,oJ,gd,bf,fL,kc,dE,bT,aName,gQ,dh,foldl_cons,foldl_nil,map_none,bind_none,isEmpty,List.reverse_cons,List.reverse_nil,and_self,and_true,true_and,Option.some.injEq,je,cR,jf,setG,append_nil,fr,n8,n6,bX,cM,fU,mulM g1.mp g2.mq,mulM g2.mp g1.mq,mulM g1.mq g2.mq,mulM g1.mp g2.mp,mulM g1.mq g2.mp,kN z (g1.mq.mul g2.mq)]
theorem NH(T:TX P K mg)(ll:Dn P w K mg base 42 "make" ["n","d"] 2 f9)(U:FnAt K mg "times" (top 5) ["a","b"]):Dn P w K mg base 43 "times" ["a","b"] 2 ic:=by
 obtain⟨f,fd,U,hm,hB⟩:=U.ex;have nd:(["a","b"]:List Str).Nodup:=by decide +kernel
 refine iK U hm hB (N:=["a","b"]) ⟨rfl,rfl,rfl,by decide +kernel,rfl,by decide +kernel,by decide +kernel⟩ rfl (λbC A outer s H E hr=>
  (ak (aJ (aR ll hr (a9 (bQ (ao (a7 0) ae) (ao (a7 1) ae)) (a9 (bQ (ao (a7 0) ae) (ao (a7 1) ae)) ag)))))) ?_
 intro ds d hl hF;obtain⟨p,q,r,s,rfl,g1,g2,e⟩:=gy hF;have z:=mul_ne_zero (ne_of_gt g1.pos) (ne_of_gt g2.pos);cases e;simp only[jq,cy,cN,gB,iE,lG,ir,qw,bY,o6,f2,f1,aH,fC,aO,bS,kR,o7,iR,d8,vd,pM,xM,qZ,mh,lI,lj,bG,bE,lE,mC,nW,map_cons,map_nil,getElem?_cons_zero,getElem?_cons_succ,Option.join_some,Option.bind_some,map_some,set_cons_zero,set_cons_succ,length_cons,length_nil,cons_append,nil_append,List.replicate,add_sub_cancel,zero_add,reduceAdd,reduceSub,if_true,if_false,false_eq_true,Bool.not_true,Bool.not_false,decide_true,decide_false,reduceIte,reduceCtorEq,reduceEqDiff,reduceLeDiff,oZ,mG,fB,tE,oJ,gd,bf,fL,kc,dE,bT,aName,gQ,dh,foldl_cons,foldl_nil,map_none,bind_none,isEmpty,List.reverse_cons,List.reverse_nil,and_self,and_true,true_and,Option.some.injEq,je,cR,jf,setG,append_nil,fr,n8,n6,bX,cM,fU,mulM g1.mp g2.mq,mulM g2.mp g1.mq,mulM g1.mq g2.mq,mulM g1.mp g2.mp,mulM g1.mq g2.mp,kN z (g1.mq.mul g2.mq)]
theorem NU(T:TX P K mg)(ll:Dn P w K mg base 42 "make" ["n","d"] 2 f9)(U:FnAt K mg "below" (top 7) ["a","b"]):Dn P w K mg base 43 "below" ["a","b"] 2 kX:=by
 obtain⟨f,fd,U,hm,hB⟩:=U.ex;have nd:(["a","b"]:List Str).Nodup:=by decide +kernel
 refine iK U hm hB (N:=["a","b"]) ⟨rfl,rfl,rfl,by decide +kernel,rfl,by decide +kernel,by decide +kernel⟩ rfl (λbC A outer s H E hr=>
  (ak (aJ (OU (bQ (ao (a7 0) ae) (ao (a7 1) ae)) (bQ (ao (a7 1) ae) (ao (a7 0) ae)))))) ?_
 intro ds d hl hF;obtain⟨p,q,r,s,rfl,g1,g2,e⟩:=gy hF;have z:=mul_ne_zero (ne_of_gt g1.pos) (ne_of_gt g2.pos);cases e;simp only[jq,cy,cN,gB,iE,lG,ir,qw,bY,o6,f2,f1,aH,fC,aO,bS,kR,o7,iR,d8,vd,pM,xM,qZ,mh,lI,lj,bG,bE,lE,mC,nW,map_cons,map_nil,getElem?_cons_zero,getElem?_cons_succ,Option.join_some,Option.bind_some,map_some,set_cons_zero,set_cons_succ,length_cons,length_nil,cons_append,nil_append,List.replicate,add_sub_cancel,zero_add,reduceAdd,reduceSub,if_true,if_false,false_eq_true,Bool.not_true,Bool.not_false,decide_true,decide_false,reduceIte,reduceCtorEq,reduceEqDiff,reduceLeDiff,oZ,mG,fB,tE,oJ,gd,bf,fL,kc,dE,bT,aName,gQ,dh,foldl_cons,foldl_nil,map_none,bind_none,isEmpty,List.reverse_cons,List.reverse_nil,and_self,and_true,true_and,Option.some.injEq,je,cR,jf,setG,append_nil,fr,n8,n6,bX,cM,fU,mulM g1.mp g2.mq,mulM g2.mp g1.mq,mulM g1.mq g2.mq,mulM g1.mp g2.mp,mulM g1.mq g2.mp]
abbrev CM (x:Int×Int):Dat:=fr x.1 x.2
theorem rS(lo:Int)(n:Nat):(jt lo n).length=n:=by unfold jt;rw[length_map,length_range]
variable {n m:Nat}
theorem Px{a b:Nat}(ha:a<2^n)(hb:b<2^m):a*b<2^(n+m):=by
 have h:=Nat.mul_lt_mul'' ha hb;rw[pw]at h;exact h
def WZ (n d:Int):Int×Int:=(Fr.num n d,Fr.den n d)
def pl (x y:Int×Int):Int×Int:=WZ (x.1*y.2+y.1*x.2) (x.2*y.2)
def TU (x y:Int×Int):Bool:=decide (x.1*y.2<y.1*x.2)
theorem nX{α β γ:Type}{f:α->β->γ}{z:γ}:∀{xs:List α} {ys:List β},z∈zipWith f xs ys->∃x∈xs,∃y∈ys,z=f x y
 |[],ys,h=>by simp at h
 |x::xs,[],h=>by simp at h
 |x::xs,y::ys,h=>by
  rw[List.zipWith_cons_cons]at h;rcases mem_cons.mp h with e|h
  ·exact⟨x,mem_cons_self,y,mem_cons_self,e⟩
  ·obtain⟨a,ha,b,hb,e⟩:=nX h;exact⟨a,mem_cons_of_mem _ ha,b,mem_cons_of_mem _ hb,e⟩
theorem Np{x y:Int×Int}(h:CM x=CM y):x=y:=by
 simp only[PySem.W.Dat.tuple.injEq,List.cons.injEq,PySem.W.Dat.int.injEq,and_true]at h;exact Prod.ext h.1 h.2
theorem NA{d e:Dat}(h1:kqdOk 9 d=true)(h2:kqdOk 9 e=true)(n1:∀b,d≠.bool b)(n2:∀b,d≠.str b):eqB d e=some (kf d e):=by
 unfold eqB;split
 ·exact absurd rfl (n1 _)
 ·exact absurd rfl (n2 _)
 ·exact if_pos ⟨h1,h2⟩
theorem CT(x y:Int×Int):gi (CM x) (CM y)=some (.bool (decide (x=y))):=by
 unfold gi;rw[NA rfl rfl (λb h=>by cases h) (λb h=>by cases h)];by_cases e:x=y
 ·subst e;rw[mV rfl,decide_eq_true rfl];rfl
 ·rw[oM λz=>e (Np z),decide_eq_false e];rfl
theorem N8(x y:Int×Int):ix (CM x) (CM y)=some (.bool (!decide (x=y))):=by
 have h:=CT x y;unfold gi at h;unfold ix;obtain⟨k,e1,e2⟩:=aT h;rw[e1];injection e2 with e2;show some (Dat.bool (!k))=_;rw[e2]
theorem cU(x y:Str):gi (.str x) (.str y)=some (.bool (decide (x=y))):=rfl
theorem tM(x y:Str):ix (.str x) (.str y)=some (.bool (!decide (x=y))):=rfl
theorem Wz(x y z:Dat):gH [x,y,z] 0=some x:=rfl
theorem Wy(x y z:Dat):gH [x,y,z] 1=some y:=rfl
theorem Wx(x y z:Dat):gH [x,y,z] 2=some z:=rfl
abbrev qD (q:Rat):Dat:=.tuple [.int q.num,.int (q.den:Int)]
structure SR (n:Nat) (q:Rat):Prop where
 ln:q.num.natAbs<2^n
 ld:q.den<2^n
variable {q:Rat}
theorem SR.up(h:SR n q)(hn:n<=m):SR m q:=⟨lt_of_lt_of_le h.ln (pow_le_pow_right (by decide) hn),lt_of_lt_of_le h.ld (pow_le_pow_right (by decide) hn)⟩
theorem SR.gd(h:SR n q)(hn:n<=4000000):Gd q.num (q.den:Int):=⟨by have:=q.den_pos;omega,by show Nat.gcd _ _=1;rw[natAbs_natCast];exact q.reduced,⟨(h.up hn).ln⟩,⟨by rw[natAbs_natCast];exact(h.up hn).ld⟩⟩
variable {a b:Rat}
theorem oQ(ha:SR n a)(hb:SR m b)(hn:n<=4000000)(hm:m<=4000000):iW [qD a,qD b]=some (qD (a+b)):=by
 have:=nc (g:=λp q r s=>some (mk (p*s+r*q) (q*s))) (ha.gd hn) (hb.gd hm);obtain⟨e1,e2⟩:=Fr.C6 a b;refine this.trans (congrArg some ?_);show Dat.tuple [.int (Fr.num _ _),.int (Fr.den _ _)]=_;rw[e1,e2]
theorem wO(ha:SR n a)(hb:SR m b)(hn:n<=4000000)(hm:m<=4000000):jP [qD a,qD b]=some (qD (a-b)):=by
 have:=nc (g:=λp q r s=>some (mk (p*s-r*q) (q*s))) (ha.gd hn) (hb.gd hm);obtain⟨e1,e2⟩:=Fr.Mz a b;refine this.trans (congrArg some ?_);show Dat.tuple [.int (Fr.num _ _),.int (Fr.den _ _)]=_;rw[e1,e2]
theorem oP(ha:SR n a)(hb:SR m b)(hn:n<=4000000)(hm:m<=4000000):ic [qD a,qD b]=some (qD (a*b)):=by
 have:=nc (g:=λp q r s=>some (mk (p*r) (q*s))) (ha.gd hn) (hb.gd hm);obtain⟨e1,e2⟩:=Fr.C5 a b;refine this.trans (congrArg some ?_);show Dat.tuple [.int (Fr.num _ _),.int (Fr.den _ _)]=_;rw[e1,e2]
theorem RD(ha:SR n a)(hb:SR m b)(hn:n<=4000000)(hm:m<=4000000)(h0:b.num≠0):vE [qD a,qD b]=some (qD (a/b)):=by
 have:=nc (g:=λp q r s=>if r≠0 then some (mk (p*s) (q*r))else none) (ha.gd hn) (hb.gd hm);rw[if_pos h0]at this;obtain⟨e1,e2⟩:=Fr.MA a b h0;refine this.trans (congrArg some ?_);show Dat.tuple [.int (Fr.num _ _),.int (Fr.den _ _)]=_;rw[e1,e2]
theorem Dq(ha:SR n a)(hb:SR m b)(hn:n<=4000000)(hm:m<=4000000):kX [qD a,qD b]=some (.bool (decide (a<b))):=by
 have:=nc (g:=λp q r s=>some (.bool (decide (p*s<r*q)))) (ha.gd hn) (hb.gd hm);rw[show kX [qD a,qD b]=_ from this];congr 2
 exact decide_eq_decide.mpr (Fr.OK a b).symm
theorem DE{N D:Int}(hD:D≠0)(h1:Fr.num N D=q.num)(h2:Fr.den N D=(q.den:Int))(hn:N.natAbs<2^n)(hd:D.natAbs<2^n):SR n q:=by
 have a:=Fr.ED (n:=N) (d:=D) hD;have b:=Fr.EE (n:=N) (d:=D) hD;rw[h1]at a;rw[h2,natAbs_natCast]at b;exact⟨lt_of_le_of_lt a hn,lt_of_le_of_lt b hd⟩
theorem HQ(q:Rat):(q.den:Int)≠0:=by have:=q.den_pos;omega
variable {a b:Int}
theorem gI(ha:a.natAbs<2^n)(hb:b.natAbs<2^m):(a*b).natAbs<2^(n+m):=by rw[natAbs_mul];exact Px ha hb
theorem B4(ha:a.natAbs<2^n)(hb:b.natAbs<2^n):(a+b).natAbs<2^(n+1):=by
 have e:(2:Nat)^(n+1)=2^n*2:=pow_succ 2 n;rw[e];generalize (2:Nat)^n=z at *;omega
theorem Ru(ha:a.natAbs<2^n)(hb:b.natAbs<2^n):(a-b).natAbs<2^(n+1):=by
 have e:(2:Nat)^(n+1)=2^n*2:=pow_succ 2 n;rw[e];generalize (2:Nat)^n=z at *;omega
theorem gU{x:Nat}(h:x<2^n)(hn:n<=m):x<2^m:=lt_of_lt_of_le h (pow_le_pow_right (by decide) hn)
theorem SR.dn(h:SR n q):(q.den:Int).natAbs<2^n:=by rw[natAbs_natCast];exact h.ld
theorem SR.add{a b:Rat}(ha:SR n a)(hb:SR m b):SR (n+m+1) (a+b):=by
 obtain⟨e1,e2⟩:=Fr.C6 a b;refine DE (mul_ne_zero (HQ a) (HQ b)) e1 e2 (B4 (gI ha.ln hb.dn) (by rw[add_comm n m];exact gI hb.ln ha.dn)) (gU (gI ha.dn hb.dn) (by omega))
theorem SR.mul{a b:Rat}(ha:SR n a)(hb:SR m b):SR (n+m) (a*b):=by
 obtain⟨e1,e2⟩:=Fr.C5 a b;exact DE (mul_ne_zero (HQ a) (HQ b)) e1 e2 (gI ha.ln hb.ln) (gI ha.dn hb.dn)
theorem NN(T:TX P K mg)(ll:Dn P w K mg base 42 "make" ["n","d"] 2 f9)(U:FnAt K mg "minus" (top 4) ["a","b"]):Dn P w K mg base 43 "minus" ["a","b"] 2 jP:=by
 obtain⟨f,fd,U,hm,hB⟩:=U.ex;have nd:(["a","b"]:List Str).Nodup:=by decide +kernel
 refine iK U hm hB (N:=["a","b"]) ⟨rfl,rfl,rfl,by decide +kernel,rfl,by decide +kernel,by decide +kernel⟩ rfl (λbC A outer s H E hr=>
  (ak (aJ (aR ll hr (a9 (i9 (bQ (ao (a7 0) ae) (ao (a7 1) ae)) (bQ (ao (a7 1) ae) (ao (a7 0) ae))) (a9 (bQ (ao (a7 0) ae) (ao (a7 1) ae)) ag (hs:=bF)) (hs:=bF)))))) ?_
 intro ds d hl hF;obtain⟨p,q,r,s,rfl,g1,g2,e⟩:=gy hF;have z:=Int.mul_pos g1.pos g2.pos;cases e;simp![n8,n6,mulM g1.mp g2.mq,mulM g2.mp g1.mq,mulM g1.mq g2.mq,cM,kN (ne_of_gt z) (g1.mq.mul g2.mq)]
theorem Rf(T:TX P K mg)(ll:Dn P w K mg base 42 "make" ["n","d"] 2 f9)(U:FnAt K mg "over" (top 6) ["a","b"]):Dn P w K mg base 43 "over" ["a","b"] 2 vE:=by
 obtain⟨f,fd,U,hm,hB⟩:=U.ex;have nd:(["a","b"]:List Str).Nodup:=by decide +kernel
 refine iK U hm hB (N:=["a","b"]) ⟨rfl,rfl,rfl,by decide +kernel,rfl,by decide +kernel,by decide +kernel⟩ rfl (λbC A outer s H E hr=>
  (ak (aJ (aR ll hr (a9 (bQ (ao (a7 0) ae) (ao (a7 1) ae)) (a9 (bQ (ao (a7 0) ae) (ao (a7 1) ae)) ag (hs:=bF)) (hs:=bF)))))) ?_
 intro ds d hl hF;obtain⟨p,q,r,s,rfl,g1,g2,e⟩:=gy hF;by_cases h0:r≠0
 ·rw[if_pos h0]at e;have z:q*r≠0:=mul_ne_zero (ne_of_gt g1.pos) h0;cases e;simp![n8,n6,mulM g1.mp g2.mq,mulM g1.mq g2.mp,kN z (g1.mq.mul g2.mp)]
 ·rw[if_neg h0]at e;cases e
def cB:FM.Kn->Str
 | .eq=>"="
 | .le=>"<="
 | .lt=>"<"
def aI (r:FM.Row):Dat:=ee (cB r.1,r.2)
abbrev fu (l:List Int):Dat:=.tuple (l.map Dat.int)
theorem Nh{a b:FM.Kn}(h:cB a=cB b):a=b:=by cases a<;>cases b<;>first|rfl|exact absurd h (by decide +kernel)
theorem BZ{a b:FM.Row}(h:aI a=aI b):a=b:=by
 have:=p6 h;obtain⟨e1,e2⟩:=Prod.mk.inj this;exact Prod.ext (Nh e1) e2
theorem iy(k:FM.Kn):(cB k="=")↔k=.eq:=by cases k<;>simp[cB]<;>decide +kernel
theorem Eb(k:FM.Kn):(cB k="<")↔k=.lt:=by cases k<;>simp[cB]<;>decide +kernel
theorem kr(r:FM.Row):bf (aI r) (.int 0)=some (.str (cB r.1)):=rfl
theorem iw(r:FM.Row):bf (aI r) (.int 1)=some (fu r.2):=rfl
variable {j:Nat}
theorem gG{l:List Int}(h:j<l.length):bf (fu l) (.int (j:Int))=some (.int (l.getD j 0)):=by
 show gH (l.map Dat.int) (j:Int)=_;unfold L2.gH L2.lM;rw[if_pos (by omega),if_pos (by rw[length_map];omega)];show(l.map Dat.int)[((j:Int)).toNat]?=_;rw[toNat_natCast,getElem?_map,getD_eq_getElem?_getD,getElem?_eq_getElem h];rfl
theorem PK{l:List Int}{x:Int}(h:x∈l)(hx:x≠0):FM.lowG l<=x.natAbs:=Nat.le_of_dvd (by omega) (Int.ofNat_dvd_left.mp (FM.mO h))
theorem HV(T:TX P K mg)(gk:Dn P w K mg base 41 "common_divisor" ["a","b"] 2 pR)(U:FnAt K mg "lowered" (top 11) ["numbers"]):
  ∃F,Dn P w K mg base 42 "lowered" ["numbers"] 1 F/\∀(l:List Int),l.length<=900->(∀x∈l,x.natAbs<2^9000000)->(∃x∈l,x≠0)->F [.list (l.map .int)]=some (fu (FM.lowered l)):=by
 refine⟨_,dI ["numbers","divisor","number"] U λnd _ _ _ _ _ _ _ hr=>
  (ah (aL 1 nd ae)
  (ah (gR PassesOwn.never rfl (a7 0) (aA 2 nd)
  (ak (aL 1 nd (aR gk hr (a9 (a7 1) (a9 (mw T.abs (a9 (a7 2) ag)) ag (hs:=aV)))))))
  (ak (aJ (nr T.tuple (a9 (cS (iG rfl (cY (tn:=["number"]) (fv:=["divisor"]) (js:=[1]) rfl (by decide +kernel) (by decide +kernel) rfl (by decide +kernel) (by decide +kernel) rfl
   (λx hx=>by((have dF:x="divisor":=(by simpa using hx));(rcases dF with rfl<;>exact⟨_,rfl⟩)))
   (λp hp=>by((have cV:p=(("divisor" : Str),(1:Nat)):=(by simpa using hp));(rcases cV with rfl<;>exact⟨rfl,.inr (.inl rfl),.inl rfl,λz=>by cases z⟩)))) (a7 0) (λ_ _ _ _=>(aA 0 (show(["number","divisor"]:List Str).Nodup by decide +kernel))) (λ_ _ _ _=>bV) (λ_ _ _ _=>(g9 T.seer hr (a7 0) (a7 1))) (cD rfl))) ag)))))),?_⟩
 intro l hl hb ⟨x0,GY,cx⟩;have hp:=FM.tP GY cx;have Xx:((FM.lowG l:Int)).natAbs.log2<9000000:=by
  refine log2_small (k:=9000000) (by decide) ?_;rw[natAbs_natCast];exact lt_of_le_of_lt (PK GY cx) (hb x0 GY)
 have zl:l.length<sizeLine:=lt_of_lt_of_le (show l.length<1000 by omega) (sz (by decide));refine cJ ?_;simp!;rw[aU (aj:=[~~~.list (l.map .int),~~~.int 0,none]) (by simp![])];refine jR (I:=_) (jL (l:=l) (s:=0) Dat.int (fun(g:Nat) Γ=>∃u,Γ=[~~~.list (l.map .int),~~~.int (g:Int),u]) (λ_ _=>True) (λg x=>Nat.gcd g x.natAbs) (d:=.list (l.map .int)) rfl rfl trivial ⟨none,rfl⟩ ?_) ?_
 ·rintro g x l' Γ _ ⟨u,rfl⟩;refine⟨[(2,.int x)],rfl,?_⟩;dsimp!;have e1:pR [.int (g:Int),.int (x.natAbs:Int)]=some (.int ((Nat.gcd g x.natAbs:Nat):Int)):=by
   show(if 0<=(g:Int)/\0<=(x.natAbs:Int)then some (Dat.int (gcd (g:Int) (x.natAbs:Int)))else none)=_;rw[if_pos ⟨by omega,by omega⟩];rfl
  exact⟨[~~~.list (l.map .int),~~~.int ((Nat.gcd g x.natAbs:Nat):Int),~~~.int x],by simp![jy,e1],⟨_,rfl⟩,trivial⟩
 ·rintro aj ⟨u,rfl⟩;have eG:(l.foldl (λg x=>Nat.gcd g x.natAbs) 0:Nat)=FM.lowG l:=rfl;rw[eG];have ec:bT (aName 0) fK (L3.f2 lh (aH 0) (aH 1)) [none,some (.int (FM.lowG l:Int))] (l.map .int)=some ((FM.lowered l).map .int):=by
   refine fz _ _ (by rw[length_map,length_map,FM.sV]) λi d o h1 h2=>?_;unfold FM.lowered at h2;rw[getElem?_map]at h1 h2;rw[getElem?_map]at h2;cases hq:l[i]? with
   |none=>rw[hq]at h1;cases h1
   |some x=>
    rw[hq]at h1 h2;cases h1;cases h2;refine⟨[(0,.int x)],rfl,?_⟩;have e:=qX (a:=x) (b:=(FM.lowG l:Int)) (by omega) Xx;simp![e]
  simp![length_map,zl,ec]
theorem tm:∀(xs ys:List Int),dP (xs.map Dat.int) (ys.map Dat.int)=(xs.zip ys).map λz=>Dat.tuple [.int z.1,.int z.2]
 |[],ys=>by simp[dP]
 |x::xs,[]=>by simp[dP]
 |x::xs,y::ys=>by simp only[map_cons,dP,zip_cons_cons,tm xs ys]
theorem NM(T:TX P K mg){Fl:List Dat->Option Dat}(Ks:Dn P w K mg base 42 "lowered" ["numbers"] 1 Fl)(hL:∀(l:List Int),l.length<=900->(∀x∈l,x.natAbs<2^9000000)->(∃x∈l,x≠0)->Fl [.list (l.map .int)]=some (fu (FM.lowered l)))(U:FnAt K mg "mixed" (top 14) ["one","much","other","more"]):
  ∃F,Dn P w K mg base 43 "mixed" ["one","much","other","more"] 4 F/\∀(b:Nat) (one other:List Int) (bZ more:Int),b<=4400000->one.length<=900->(∀x∈one,x.natAbs<2^b)->(∀x∈other,x.natAbs<2^b)->bZ.natAbs<2^b->more.natAbs<2^b->(∃x∈FM.fF one bZ other more,x≠0)->
   F [fu one,.int bZ,fu other,.int more]=some (fu (FM.mixed one bZ other more))/\∀x∈FM.mixed one bZ other more,x.natAbs<2^(2*b+1):=by
 refine⟨_,dI ["one","much","other","more"] U λnd _ _ _ _ _ _ _ hr=>
  (ak (aJ (aR Ks hr (a9 (cS (gT rfl (cY (tn:=["a","b"]) (fv:=["much","more"]) (js:=[1,3]) rfl (by decide +kernel) (by decide +kernel) rfl (by decide +kernel) (by decide +kernel) rfl
   (λx hx=>by((have dF:x="much"\/x="more":=(by simpa using hx));(rcases dF with rfl|rfl<;>exact⟨_,rfl⟩)))
   (λp hp=>by((have cV:p=(("much" : Str),(1:Nat))\/p=(("more" : Str),(3:Nat)):=(by simpa using hp));(rcases cV with rfl|rfl<;>exact⟨rfl,.inr (.inl rfl),.inl rfl,λz=>by cases z⟩)))) (kH T.zip (a9 (a7 0) (a9 (a7 2) ag))) (λ_ _ _ _=>(fm (n:=2) rfl (aX (aA 0 (show(["a","b","much","more"]:List Str).Nodup by decide +kernel)) (aX (aA 1 (show(["a","b","much","more"]:List Str).Nodup by decide +kernel)) cK)))) (λ_ _ _ _=>bV) (λ_ _ _ _=>(cW (bQ (a7 2) (a7 0)) (bQ (a7 3) (a7 1)))) (qm rfl rfl))) ag)))),?_⟩
 intro b one other bZ more hb h9 h1 h2 h3 h4 cx;have bd:∀x∈FM.fF one bZ other more,x.natAbs<2^(2*b+1):=λx hx=>by
  obtain⟨p,hp,q,hq,rfl⟩:=nX (show x∈zipWith (λa b=>bZ*a+more*b) one other from hx);rw[show 2*b=b+b by omega];exact B4 (gI h3 (h1 p hp)) (gI h4 (h2 q hq))
 have ml:(FM.fF one bZ other more).length<=900:=by
  show(zipWith _ one other).length<=900;rw[length_zipWith];omega
 have eL:=hL (FM.fF one bZ other more) ml (λx hx=>gU (bd x hx) (by omega)) cx;constructor
 ·have zl:(one.zip other).length<sizeLine:=by rw[length_zip];exact lt_of_lt_of_le (show min one.length other.length<1000 by omega) (sz (by decide))
  have ec:bT (je 2 (cR (aName 0) (cR (aName 1) jf))) fK (L3.f2 kU (L3.f2 iM (aH 2) (aH 0)) (L3.f2 iM (aH 3) (aH 1))) [none,none,some (.int bZ),some (.int more)] ((one.zip other).map λz=>Dat.tuple [.int z.1,.int z.2])=some ((FM.fF one bZ other more).map .int):=by
   have es:FM.fF one bZ other more=(one.zip other).map λz=>bZ*z.1+more*z.2:=by
    show zipWith _ one other=_;clear eL ml bd cx h1 h2 h9 zl;induction one generalizing other with
    |nil=>simp
    |cons x one ih=>
     cases other with
     |nil=>simp
     |cons y other=>rw[List.zipWith_cons_cons,zip_cons_cons,map_cons,ih]
   rw[es];refine fz _ _ (by rw[length_map,length_map,length_map]) λi d o g1 g2=>?_;rw[getElem?_map]at g1 g2;rw[getElem?_map]at g2;cases hq:(one.zip other)[i]? with
   |none=>rw[hq]at g1;cases g1
   |some z=>
    rw[hq]at g1 g2;cases g1;cases g2;obtain⟨Q6,Q5⟩:=of_mem_zip (mem_of_getElem? hq);refine⟨[(0,.int z.1),(1,.int z.2)],rfl,?_⟩;have e1:=E8 (a:=bZ) (b:=z.1) (gU h3 (by omega)) (gU (h1 z.1 Q6) (by omega));have e2:=E8 (a:=more) (b:=z.2) (gU h4 (by omega)) (gU (h2 z.2 Q5) (by omega));simp![e1,e2,bX]
  simp![gh,tm,length_map,zl,ec,eL];rfl
 ·intro x hx;obtain⟨y,hy,rfl⟩:=mem_map.mp (show x∈(FM.fF one bZ other more).map (λx=>x.fdiv (FM.lowG (FM.fF one bZ other more):Int))from hx);refine lt_of_le_of_lt ?_ (bd y hy);obtain⟨c,hc⟩:=FM.mO hy;obtain⟨x0,GY,h0⟩:=cx;have gp:=FM.tP GY h0;generalize (FM.lowG (FM.fF one bZ other more))=g at hc gp;rw[hc,mul_comm,Int.mul_fdiv_cancel _ (by omega),natAbs_mul,natAbs_natCast];exact Nat.le_mul_of_pos_right _ gp
structure lV (m b:Nat) (rows:List FM.Row):Prop where
 len:∀r∈rows,r.2.length=m
 bd:∀r∈rows,∀x∈r.2,x.natAbs<2^b
theorem dR{r:FM.Row}{b:Nat}(h:∀x∈r.2,x.natAbs<2^b):(FM.ent r j).natAbs<2^b:=by
 by_cases c:FM.ent r j=0
 ·rw[c];exact pow_pos (by decide)
 ·exact h _ (FM.mem_getD c)
def tK:Option FM.Row->Dat
 |none=>.none
 |some r=>aI r
theorem NR(T:TX P K mg)(U:FnAt K mg "equal_row" (top 15) ["rows","place"]):
  ∃F,Dn P w K mg base 41 "equal_row" ["rows","place"] 2 F/\∀(rows:List FM.Row) (j m:Nat),(∀r∈rows,r.2.length=m)->j<m->F [.list (rows.map aI),.int (j:Int)]=some (tK (FM.eK j rows)):=by
 refine⟨_,dI ["rows","place","row"] U λnd _ _ _ _ _ _ _ hr=>
  (ah (gR PassesOwn.never rfl (a7 0) (aA 2 nd)
  (ak (bD (fD (kI (cQ hr (ao (a7 2) ae) cc) (jE (fS hr (ao (ao (a7 2) ae) (a7 1)) ae)))) (ak (aJ (a7 2))) ba)))
  (ak (aJ bU))),?_⟩
 intro rows j m hl hj;refine cJ ?_;simp!;refine(xK (l:=rows) aI (λΓ=>∃u,Γ=[~~~.list (rows.map aI),~~~.int (j:Int),u]) (λr=>decide (r.1=.eq/\FM.ent r j≠0)) aI (d:=.list (rows.map aI)) (fl:=λo=>.rt (tK o)) rfl rfl ⟨none,rfl⟩ ?_ (λ_=>rfl) ?_)
 ·rintro r hr Γ ⟨u,rfl⟩;refine⟨[(2,aI r)],rfl,?_⟩;dsimp!;have a1:=gG (l:=r.2) (j:=j) (by rw[hl r hr];exact hj);have a0:FM.ent r j=r.2.getD j 0:=rfl;by_cases c1:r.1=.eq
  ·have k1:=(iy r.1).mpr c1;by_cases c2:r.2.getD j 0=0
   ·rw[if_neg (by rw[a0,decide_eq_true_eq];exact λz=>z.2 c2)];refine⟨[~~~.list (rows.map aI),~~~.int (j:Int),~~~(aI r)],?_,_,rfl⟩;dsimp![kr,iw,a1,cU,fT,eq_true k1,eq_true c2]
   ·rw[if_pos (by rw[a0];exact decide_eq_true ⟨c1,c2⟩)];dsimp![kr,iw,a1,cU,fT,eq_true k1,eq_false c2]
  ·have k1:¬cB r.1="=":=λz=>c1 ((iy r.1).mp z);rw[if_neg (by simp[c1])];refine⟨[~~~.list (rows.map aI),~~~.int (j:Int),~~~(aI r)],?_,_,rfl⟩;dsimp![kr,iw,a1,cU,fT,eq_false k1]
 ·rintro aj ⟨u,rfl⟩;simp![tK]
abbrev RF (Fm:List Dat->Option Dat):Prop:=∀(b:Nat) (one other:List Int) (bZ more:Int),b<=4400000->one.length<=900->(∀x∈one,x.natAbs<2^b)->(∀x∈other,x.natAbs<2^b)->bZ.natAbs<2^b->more.natAbs<2^b->(∃x∈FM.fF one bZ other more,x≠0)->
   Fm [fu one,.int bZ,fu other,.int more]=some (fu (FM.mixed one bZ other more))/\∀x∈FM.mixed one bZ other more,x.natAbs<2^(2*b+1)
abbrev UR (F:List Dat->Option Dat):Prop:=∀(b m j:Nat) (r q:FM.Row),b<=4400000->m<=900->j<m->r.2.length=m->q.2.length=m->(∀x∈r.2,x.natAbs<2^b)->(∀x∈q.2,x.natAbs<2^b)->(∃x∈FM.fF r.2 ((FM.ent q j).natAbs:Int) q.2 (if 0<FM.ent q j then -FM.ent r j else FM.ent r j),x≠0)->
   F [aI r,aI q,.int (j:Int)]=some (aI (FM.wo q j r))/\∀x∈(FM.wo q j r).2,x.natAbs<2^(2*b+1)
theorem HU(T:TX P K mg){Fm:List Dat->Option Dat}(Bi:Dn P w K mg base 43 "mixed" ["one","much","other","more"] 4 Fm)(hM:RF Fm)(U:FnAt K mg "without" (top 16) ["row","equal","place"]):
  ∃F,Dn P w K mg base 44 "without" ["row","equal","place"] 3 F/\UR F:=by
 refine⟨_,dI ["row","equal","place","part","more"] U λnd _ _ _ _ _ _ _ hr=>
  (ah (aL 3 nd (ao (ao (a7 1) ae) (a7 2)))
  (ah (aL 4 nd (fw (rW (a7 3) ae) (jF (ao (ao (a7 0) ae) (a7 2))) (ao (ao (a7 0) ae) (a7 2))))
  (ak (aJ (c9 (k:=0) (a9 (ao (a7 0) ae) (a9 (aR Bi hr (a9 (ao (a7 0) ae) (a9 (mw T.abs (a9 (a7 3) ag)) (a9 (ao (a7 1) ae) (a9 (a7 4) ag) (hs:=b9)) (hs:=aV)) (hs:=b9))) ag (hs:=aV)) (hs:=b9))))))),?_⟩
 intro b m j r q hb oG hj hr hq br bq cx;have z2:2<=sizeLine:=sz (by decide);have a1:=gG (l:=r.2) (j:=j) (by omega);have a2:=gG (l:=q.2) (j:=j) (by omega);have m1:(((FM.ent q j).natAbs:Int)).natAbs<2^b:=by rw[natAbs_natCast];exact dR bq
 have m2:(if 0<FM.ent q j then -FM.ent r j else FM.ent r j).natAbs<2^b:=by
  split
  ·rw[natAbs_neg];exact dR br
  ·exact dR br
 obtain⟨e,Qu⟩:=hM b r.2 q.2 _ _ hb (by omega) br bq m1 m2 cx;refine⟨?_,Qu⟩;have Yy:q.2.getD j 0=FM.ent q j:=rfl;have Yx:r.2.getD j 0=FM.ent r j:=rfl;rw[Yx]at a1;rw[Yy]at a2;have er:aI (FM.wo q j r)=.tuple [.str (cB r.1),fu (FM.mixed r.2 ((FM.ent q j).natAbs:Int) q.2 (if 0<FM.ent q j then -FM.ent r j else FM.ent r j))]:=rfl;rw[er];by_cases c:0<FM.ent q j
 ·rw[if_pos c]at e ⊢;dsimp![kr,iw,a1,a2,ib,jy,eq_true c,e,z2]
 ·rw[if_neg c]at e ⊢;dsimp![kr,iw,a1,a2,ib,jy,eq_false c,e,z2]
abbrev Vf (F:List Dat->Option Dat):Prop:=∀(b m j:Nat) (u l:FM.Row),b<=4400000->m<=900->j<m->u.2.length=m->l.2.length=m->(∀x∈u.2,x.natAbs<2^b)->(∀x∈l.2,x.natAbs<2^b)->(∃x∈FM.fF u.2 (-FM.ent l j) l.2 (FM.ent u j),x≠0)->
   F [aI u,aI l,.int (j:Int)]=some (aI (FM.joined j u l))/\∀x∈(FM.joined j u l).2,x.natAbs<2^(2*b+1)
theorem K5(T:TX P K mg){Fm:List Dat->Option Dat}(Bi:Dn P w K mg base 43 "mixed" ["one","much","other","more"] 4 Fm)(hM:RF Fm)(U:FnAt K mg "joined" (top 17) ["upper","lower","place"]):
  ∃F,Dn P w K mg base 44 "joined" ["upper","lower","place"] 3 F/\Vf F:=by
 refine⟨_,dI ["upper","lower","place","kind"] U λnd _ _ _ _ _ _ _ hr=>
  (ah (aL 3 nd (fw (C7 cc (c9 (k:=0) (a9 (ao (a7 0) ae) (a9 (ao (a7 1) ae) ag (hs:=b9)) (hs:=b9)))) cc cc))
  (ak (aJ (c9 (k:=0) (a9 (a7 3) (a9 (aR Bi hr (a9 (ao (a7 0) ae) (a9 (jF (ao (ao (a7 1) ae) (a7 2))) (a9 (ao (a7 1) ae) (a9 (ao (ao (a7 0) ae) (a7 2)) ag (hs:=b9)) (hs:=b9)) (hs:=vP)) (hs:=b9))) ag (hs:=aV))))))),?_⟩
 intro b m j u l hb oG hj hu hl bu bl cx;have z2:2<=sizeLine:=sz (by decide);have a1:=gG (l:=u.2) (j:=j) (by omega);have a2:=gG (l:=l.2) (j:=j) (by omega);obtain⟨e,Qu⟩:=hM b u.2 l.2 (-FM.ent l j) (FM.ent u j) hb (by omega) bu bl (by rw[natAbs_neg];exact dR bl) (dR bu) cx;refine⟨?_,Qu⟩;have Yv:u.2.getD j 0=FM.ent u j:=rfl;have YA:l.2.getD j 0=FM.ent l j:=rfl;rw[Yv]at a1;rw[YA]at a2;have er:aI (FM.joined j u l)=.tuple [.str (cB (if u.1=.lt\/l.1=.lt then .lt else .le)),fu (FM.mixed u.2 (-FM.ent l j) l.2 (FM.ent u j))]:=rfl;rw[er];have ei:inD (.str "<") (.tuple [.str (cB u.1),.str (cB l.1)])=some (.bool (decide (u.1=.lt\/l.1=.lt))):=by
  cases A0:u.1<;>cases Aa:l.1<;>rfl
 by_cases c:u.1=.lt\/l.1=.lt
 ·rw[decide_eq_true c]at ei;rw[if_pos c];have ks:cB .lt="<":=rfl;dsimp![kr,iw,a1,a2,ei,e,z2,ks]
 ·rw[decide_eq_false c]at ei;rw[if_neg c];have ks:cB .le="<=":=rfl;dsimp![kr,iw,a1,a2,ei,e,z2,ks]
variable {α:Type}
theorem sk(g:α->Dat)(xs:List α):j9 [.list (xs.map g)]=some (.int xs.length):=by show some (Dat.int ((xs.map g).length:Nat))=_;rw[length_map]
abbrev nat (p:Nat):Dat:=.int (p:Int)
abbrev Vk (F:List Dat->Option Dat):Prop:=∀(m:Nat) (aF:List Nat) (u l:FM.Row),aF.length<=900->u.2.length=m->l.2.length=m->(∀p∈aF,p<m)->F [aI u,aI l,.list (aF.map nat)]=some (.int (FM.drawn aF u l:Nat))
theorem NT(T:TX P K mg)(U:FnAt K mg "drawn_on" (top 18) ["one","other","weighed"]):
  ∃F,Dn P w K mg base 41 "drawn_on" ["one","other","weighed"] 3 F/\Vk F:=by
 refine⟨_,dI ["one","other","weighed"] U λnd _ _ _ _ _ _ _ hr=>
  (ak (aJ (dW T.len (a9 (cS (iG rfl (cY (tn:=["place"]) (fv:=["other","one"]) (js:=[1,0]) rfl (by decide +kernel) (by decide +kernel) rfl (by decide +kernel) (by decide +kernel) rfl
   (λx hx=>by((have dF:x="other"\/x="one":=(by simpa using hx));(rcases dF with rfl|rfl<;>exact⟨_,rfl⟩)))
   (λp hp=>by((have cV:p=(("other" : Str),(1:Nat))\/p=(("one" : Str),(0:Nat)):=(by simpa using hp));(rcases cV with rfl|rfl<;>exact⟨rfl,.inr (.inl rfl),.inl rfl,λz=>by cases z⟩)))) (a7 2) (λ_ _ _ _=>(aA 0 (show(["place","other","one"]:List Str).Nodup by decide +kernel))) (λ_ _ _ _=>(lu (fD (gC (fS hr (ao (ao (a7 2) ae) (a7 0)) ae) (gS (fS hr (ao (ao (a7 1) ae) (a7 0)) ae)))))) (λ_ _ _ _=>(a7 0)) (cD rfl))) ag)))),?_⟩
 intro m aF u l hw hu hl hp;have zl:aF.length<sizeLine:=lt_of_lt_of_le (show aF.length<1000 by omega) (sz (by decide));have ec:bT (aName 0) (lI (bY (L3.f2 ix (L3.f2 bf (L3.f2 bf (aH 2) (fC (.int 1))) (aH 0)) (fC (.int 0)))) (bY (L3.f2 ix (L3.f2 bf (L3.f2 bf (aH 1) (fC (.int 1))) (aH 0)) (fC (.int 0))))) (aH 0) [none,some (aI l),some (aI u)] (aF.map nat)=some ((aF.filter λp=>decide (FM.ent u p≠0\/FM.ent l p≠0)).map nat):=by
  refine j4 nat nat _ aF λp Ha=>⟨[(0,nat p)],rfl,?_,λ_=>rfl⟩;have a1:bf (fu u.2) (nat p)=some (.int (FM.ent u p)):=gG (by rw[hu];exact hp p Ha);have a2:bf (fu l.2) (nat p)=some (.int (FM.ent l p)):=gG (by rw[hl];exact hp p Ha);by_cases c1:FM.ent u p=0
  ·by_cases c2:FM.ent l p=0
   ·rw[decide_eq_false (by rw[c1,c2];simp)];dsimp![iw,a1,a2,fT,eq_true c1,eq_true c2]
   ·rw[decide_eq_true (.inr c2)];dsimp![iw,a1,a2,fT,eq_true c1,eq_false c2]
  ·rw[decide_eq_true (.inl c1)];dsimp![iw,a1,a2,fT,eq_false c1]
 have le:=sk nat (aF.filter λp=>decide (FM.ent u p≠0\/FM.ent l p≠0));simp![length_map,zl,ec,le];rfl
abbrev rk (r:FM.Row):RK:=(cB r.1,r.2)
theorem OI{a b:FM.Row}(h:rk a=rk b):a=b:=BZ (congrArg ee h)
abbrev kO (w:World) (ks:List FM.Row):Slot:=.obj (jm w (ks.map rk)) ((ks.map rk).map ee)
theorem MK(ks:List FM.Row)(r:FM.Row):gV (ks.map rk) (rk r)=(FM.ins ks r).map rk:=by
 unfold gV FM.ins;have e:rk r∈ks.map rk↔r∈ks:=⟨λh=>by obtain⟨x,hx,e⟩:=mem_map.mp h;rw[<- OI e];exact hx,λh=>mem_map.mpr ⟨r,h,rfl⟩⟩;by_cases c:r∈ks
 ·rw[if_pos (e.mpr c),if_pos c]
 ·rw[if_neg (λz=>c (e.mp z)),if_neg c,map_append];rfl
theorem oC(k:FM.Kn):PyData.strOk (cB k)=true:=by cases k<;>decide +kernel
variable {i:Nat} {Γ:ar}
theorem Ge{g:ax->Option Dat}{ks:List FM.Row}{r:FM.Row}(hi:Γ[i]?=some (some (kO w ks)))(hf:g (bG Γ)=some (aI r))(hz:ks.length<sizeLine):uH w i g Γ=some (.nx (Γ.set i (some (kO w (FM.ins ks r))))):=by
 have:=IS (k:=rk r) hi hf (λk hk=>by obtain⟨x,_,rfl⟩:=mem_map.mp hk;exact oC x.1) (oC r.1) (by rw[length_map];exact hz);rw[MK]at this;exact this
theorem oE(ks:List FM.Row)(r:FM.Row):(FM.ins ks r).length<=ks.length+1:=by
 unfold FM.ins;split
 ·omega
 ·rw[length_append];exact le_refl _
def V0 (F:List Dat->Option Dat):Prop:=∀(b m j most:Nat) (aF:List Nat) (rows:List FM.Row),b<=4400000->m<=900->j<m->lV m b rows->aF.length<=900->(∀p∈aF,p<m)->
   (∀u∈rows,∀l∈rows,0<FM.ent u j->FM.ent l j<0->∃x∈FM.fF u.2 (-FM.ent l j) l.2 (FM.ent u j),x≠0)->rows.length+(rows.filter λr=>decide (0<FM.ent r j)).length*(rows.filter λr=>decide (FM.ent r j<0)).length<sizeLine->
   F [.list (rows.map aI),.int (j:Int),.list (aF.map nat),.int (most:Int)]=some (.list ((FM.paired j aF most rows).map aI))
theorem mf{α β:Type}(p:β->Bool)(h:α->β->α):∀(l:List β) (s:α),l.foldl (λs x=>if p x=true then h s x else s) s=(l.filter p).foldl h s
 |[],s=>rfl
 |x::l,s=>by
  rw[foldl_cons,filter_cons];by_cases c:p x=true
  ·rw[if_pos c,if_pos c,foldl_cons];exact mf p h l _
  ·rw[if_neg c,if_neg c];exact mf p h l _
variable {Fd:List Dat->Option Dat}
theorem K0(T:TX P K mg){Fj:List Dat->Option Dat}(IF:Dn P w K mg base 44 "drawn_on" ["one","other","weighed"] 3 Fd)(hD:Vk Fd)(O9:Dn P w K mg base 44 "joined" ["upper","lower","place"] 3 Fj)(hJ:Vf Fj)(U:FnAt K mg "paired" (top 19) ["rows","place","weighed","most"]):
  ∃F,Dn P w K mg base 45 "paired" ["rows","place","weighed","most"] 4 F/\V0 F:=by
 refine⟨_,dI ["rows","place","weighed","most","kept","row","lowers","upper","lower"] U λnd _ _ _ _ _ _ _ hr=>
  (ah (G4 w 4 nd)
  (ah (gR PassesOwn.never rfl (a7 0) (aA 5 nd)
  (ak (bD (cQ hr (ao (ao (a7 5) ae) (a7 1)) ae) (ak (xm w 4 hr iI (a7 5))) ba)))
  (ah (jC 6 nd rfl (cY (tn:=["row"]) (fv:=["place"]) (js:=[1]) rfl (by decide +kernel) (by decide +kernel) rfl (by decide +kernel) (by decide +kernel) rfl
   (λx hx=>by((have dF:x="place":=(by simpa using hx));(rcases dF with rfl<;>exact⟨_,rfl⟩)))
   (λp hp=>by((have cV:p=(("place" : Str),(1:Nat)):=(by simpa using hp));(rcases cV with rfl<;>exact⟨rfl,.inr (.inl rfl),.inl rfl,λz=>by cases z⟩)))) (a7 0) (λ_ _ _ _=>(aA 0 (show(["row","place"]:List Str).Nodup by decide +kernel))) (λ_ _ _ _=>(lu (mv (ao (ao (a7 0) ae) (a7 1)) ae))) (λ_ _ _ _=>(a7 0)) (cD rfl))
  (ah (gR PassesOwn.never rfl (cS (iG rfl (cY (tn:=["row"]) (fv:=["place"]) (js:=[1]) rfl (by decide +kernel) (by decide +kernel) rfl (by decide +kernel) (by decide +kernel) rfl
   (λx hx=>by((have dF:x="place":=(by simpa using hx));(rcases dF with rfl<;>exact⟨_,rfl⟩)))
   (λp hp=>by((have cV:p=(("place" : Str),(1:Nat)):=(by simpa using hp));(rcases cV with rfl<;>exact⟨rfl,.inr (.inl rfl),.inl rfl,λz=>by cases z⟩)))) (a7 0) (λ_ _ _ _=>(aA 0 (show(["row","place"]:List Str).Nodup by decide +kernel))) (λ_ _ _ _=>(lu (rW (ao (ao (a7 0) ae) (a7 1)) ae))) (λ_ _ _ _=>(a7 0)) (cD rfl))) (aA 7 nd)
  (ak (gR PassesOwn.never rfl (a7 6) (aA 8 nd)
  (ak (bD (ME (aR IF hr (a9 (a7 7) (a9 (a7 8) (a9 (a7 2) ag)))) (a7 3)) (ak (xm w 4 hr iI (aR O9 hr (a9 (a7 7) (a9 (a7 8) (a9 (a7 1) ag)))))) ba)))))
  (ak (FX w 4 hr T.list)))))),?_⟩
 intro b m j most aF rows hb oG hj hR hw Q9 Xs hN;have ai:∀r∈rows,bf (fu r.2) (.int (j:Int))=some (.int (FM.ent r j)):=λr hr=>gG (by rw[hR.len r hr];exact hj);have zr:rows.length<sizeLine:=by omega
 generalize JF:(rows.filter λr=>decide (0<FM.ent r j))=ups at hN;generalize Ei:(rows.filter λr=>decide (FM.ent r j<0))=lows at hN;refine cJ ?_;simp!;rw[aU (aj:=[~~~.list (rows.map aI),~~~.int (j:Int),~~~.list (aF.map nat),~~~.int (most:Int),some (kO w []),none,none,none,none]) rfl]

 refine jR (I:=_) (jL (l:=rows) (s:=[]) aI (fun(ks:List FM.Row) Γ=>∃u,Γ=[~~~.list (rows.map aI),~~~.int (j:Int),~~~.list (aF.map nat),~~~.int (most:Int),some (kO w ks),u,none,none,none]) (λks l=>ks.length+l.length<=rows.length/\∀r∈l,r∈rows) (λks r=>if decide (FM.ent r j=0)=true then FM.ins ks r else ks) (d:=.list (rows.map aI)) rfl rfl ⟨by simp,λ_ h=>h⟩ ⟨none,rfl⟩ ?_) ?_
 ·rintro ks r l Γ ⟨hq,kz⟩ ⟨u,rfl⟩;rw[length_cons]at hq;have a1:=ai r (kz r mem_cons_self);refine⟨[(5,aI r)],rfl,?_⟩;dsimp!;by_cases c:FM.ent r j=0
  ·refine⟨[~~~.list (rows.map aI),~~~.int (j:Int),~~~.list (aF.map nat),~~~.int (most:Int),some (kO w (FM.ins ks r)),~~~(aI r),none,none,none],?_,⟨_,by rw[if_pos (decide_eq_true c)]⟩,?_,λx hx=>kz x (mem_cons_of_mem _ hx)⟩
   ·rw[p4 (by dsimp![iw,a1,cG,eq_true c])];exact Ge rfl rfl (by omega)
   ·rw[if_pos (decide_eq_true c)];have:=oE ks r;omega
  ·refine⟨[~~~.list (rows.map aI),~~~.int (j:Int),~~~.list (aF.map nat),~~~.int (most:Int),some (kO w ks),~~~(aI r),none,none,none],?_,⟨_,by rw[if_neg (by rw[decide_eq_true_eq];exact c)]⟩,?_,λx hx=>kz x (mem_cons_of_mem _ hx)⟩
   ·rw[uF (by dsimp![iw,a1,cG,eq_false c])];rfl
   ·rw[if_neg (by rw[decide_eq_true_eq];exact c)];omega
 rintro Γ ⟨u,rfl⟩;rw[mf];generalize xG:(rows.filter λr=>decide (FM.ent r j=0)).foldl FM.ins []=L8;have hk0l:L8.length<=rows.length:=by
  rw[<- xG];have:∀(l s:List FM.Row),(l.foldl FM.ins s).length<=s.length+l.length:=λl=>by
   induction l with
   |nil=>intro s;exact le_refl _
   |cons x l ih=>intro s;rw[foldl_cons,length_cons];have:=ih (FM.ins s x);have:=oE s x;omega
  have h1:=this (rows.filter λr=>decide (FM.ent r j=0)) [];have h2:=length_filter_le (λr=>decide (FM.ent r j=0)) rows;simp only[length_nil,zero_add]at h1;omega
 have YE:bT (aName 0) (bY (L3.f2 L5 (L3.f2 bf (L3.f2 bf (aH 0) (fC (.int 1))) (aH 1)) (fC (.int 0)))) (aH 0) [none,some (.int (j:Int))] (rows.map aI)=some (lows.map aI):=by
  rw[<- Ei];refine j4 aI aI _ rows λr hr=>⟨[(0,aI r)],rfl,?_,λ_=>rfl⟩;have a1:=ai r hr;dsimp![iw,a1,fU]
 have YD:bT (aName 0) (bY (L3.f2 CK (L3.f2 bf (L3.f2 bf (aH 0) (fC (.int 1))) (aH 1)) (fC (.int 0)))) (aH 0) [none,some (.int (j:Int))] (rows.map aI)=some (ups.map aI):=by
  rw[<- JF];refine j4 aI aI _ rows λr hr=>⟨[(0,aI r)],rfl,?_,λ_=>rfl⟩;have a1:=ai r hr;dsimp![iw,a1,ib]
 rw[aU (aj:=[~~~.list (rows.map aI),~~~.int (j:Int),~~~.list (aF.map nat),~~~.int (most:Int),some (kO w L8),u,~~~.list (lows.map aI),none,none]) (by simp![lW,length_map,zr,YE])];have W3:∀r∈ups,r∈rows/\0<FM.ent r j:=λr hr=>by rw[<- JF]at hr;exact⟨(mem_filter.mp hr).1,of_decide_eq_true (mem_filter.mp hr).2⟩
 have Wa:∀r∈lows,r∈rows/\FM.ent r j<0:=λr hr=>by rw[<- Ei]at hr;exact⟨(mem_filter.mp hr).1,of_decide_eq_true (mem_filter.mp hr).2⟩
 refine jR (I:=_) (jL (l:=ups) (s:=L8) aI (fun(ks:List FM.Row) Γ=>∃x7 x8,Γ=[~~~.list (rows.map aI),~~~.int (j:Int),~~~.list (aF.map nat),~~~.int (most:Int),some (kO w ks),u,~~~.list (lows.map aI),x7,x8]) (λks l=>ks.length+l.length*lows.length<sizeLine/\∀r∈l,r∈ups) (λks up=>lows.foldl (λks lo=>if decide (FM.drawn aF up lo<=most)=true then FM.ins ks (FM.joined j up lo)else ks) ks) (d:=.list (ups.map aI)) (by simp![length_map,zr,YD]) rfl ⟨by omega,λ_ h=>h⟩ ⟨none,none,rfl⟩ ?_) ?_
 ·rintro ks up l Γ ⟨hq,kz⟩ ⟨x7,x8,rfl⟩;rw[length_cons,Nat.succ_mul]at hq;obtain⟨A0,Qc⟩:=W3 up (kz up mem_cons_self);refine⟨[(7,aI up)],rfl,?_⟩;dsimp!;refine Nv (jL (l:=lows) (s:=ks) aI (fun(xA:List FM.Row) Γ=>∃x8,Γ=[~~~.list (rows.map aI),~~~.int (j:Int),~~~.list (aF.map nat),~~~.int (most:Int),some (kO w xA),u,~~~.list (lows.map aI),~~~(aI up),x8]/\xA.length<=ks.length+lows.length) (λxA l=>xA.length+l.length<=ks.length+lows.length/\∀r∈l,r∈lows) (λks lo=>if decide (FM.drawn aF up lo<=most)=true then FM.ins ks (FM.joined j up lo)else ks) (d:=.list (lows.map aI)) rfl rfl ⟨le_refl _,λ_ h=>h⟩ ⟨x8,rfl,by omega⟩ ?_) ?_
  ·rintro xA lo l' Γ ⟨Xm,wq⟩ ⟨x8,rfl,hk⟩;rw[length_cons]at Xm;obtain⟨Aa,Hg⟩:=Wa lo (wq lo mem_cons_self);refine⟨[(8,aI lo)],rfl,?_⟩;dsimp!;have ed:=hD m aF up lo hw (hR.len up A0) (hR.len lo Aa) Q9;obtain⟨ej,_⟩:=hJ b m j up lo hb oG hj (hR.len up A0) (hR.len lo Aa) (hR.bd up A0) (hR.bd lo Aa) (Xs up A0 lo Aa Qc Hg);by_cases c:FM.drawn aF up lo<=most
   ·have c':((FM.drawn aF up lo:Nat):Int)<=(most:Int):=by omega
    have q5:=oE xA (FM.joined j up lo);refine⟨[~~~.list (rows.map aI),~~~.int (j:Int),~~~.list (aF.map nat),~~~.int (most:Int),some (kO w (FM.ins xA (FM.joined j up lo))),u,~~~.list (lows.map aI),~~~(aI up),~~~(aI lo)],?_,⟨_,by rw[if_pos (decide_eq_true c)],by rw[if_pos (decide_eq_true c)];omega⟩,by rw[if_pos (decide_eq_true c)];omega,λx hx=>wq x (mem_cons_of_mem _ hx)⟩;rw[p4 (by simp![ed,Cw,eq_true c'])];exact Ge rfl (by simp![ej]) (by omega)
   ·have c':¬((FM.drawn aF up lo:Nat):Int)<=(most:Int):=by omega
    refine⟨[~~~.list (rows.map aI),~~~.int (j:Int),~~~.list (aF.map nat),~~~.int (most:Int),some (kO w xA),u,~~~.list (lows.map aI),~~~(aI up),~~~(aI lo)],?_,⟨_,by rw[if_neg (by rw[decide_eq_true_eq];exact c)],by rw[if_neg (by rw[decide_eq_true_eq];exact c)];omega⟩,by rw[if_neg (by rw[decide_eq_true_eq];exact c)];omega,λx hx=>wq x (mem_cons_of_mem _ hx)⟩;rw[uF (by simp![ed,Cw,eq_false c'])];rfl
  ·rintro qh ⟨x8',rfl,Ll⟩;exact⟨⟨_,_,rfl⟩,by omega,λx hx=>kz x (mem_cons_of_mem _ hx)⟩
 ·rintro aj ⟨x7,x8,rfl⟩;have er:ups.foldl (λks up=>lows.foldl (λks lo=>if decide (FM.drawn aF up lo<=most)=true then FM.ins ks (FM.joined j up lo)else ks) ks) L8=FM.paired j aF most rows:=by
   unfold FM.paired FM.pairsOf;rw[List.foldl_append,xG,JF,Ei,List.foldl_flatMap];congr 1
   funext ks up
   rw[mf,List.foldl_map]
  rw[er];have:=IQ (w:=w) (i:=4) (Γ:=[~~~.list (rows.map aI),~~~.int (j:Int),~~~.list (aF.map nat),~~~.int (most:Int),some (kO w (FM.paired j aF most rows)),u,~~~.list (lows.map aI),x7,x8]) rfl;rw[map_map]at this;exact this
def fg (qs:List Rat):Nat:=qs.foldr (λq m=>q.den*m) 1
theorem Dc:∀qs:List Rat,0<fg qs
 |[]=>Nat.one_pos
 |q::qs=>Nat.mul_pos q.den_pos (Dc qs)
theorem zM(a b:Nat):((a:Int)).fdiv (b:Int)=((a/b:Nat):Int):=by
 rw[Int.fdiv_eq_ediv_of_nonneg _ (by omega),Int.natCast_ediv]
theorem PQ(m d:Nat):((m:Int)*(d:Int)).fdiv ((Nat.gcd m d:Nat):Int)=((lcm m d:Nat):Int):=by
 rw[<- Int.natCast_mul,zM];rfl
theorem GO(m d:Nat)(h:0<m)(h2:0<d):lcm m d<=m*d:=Nat.le_of_dvd (Nat.mul_pos h h2) (Nat.lcm_dvd (Nat.dvd_mul_right m d) (Nat.dvd_mul_left d m))
abbrev US (F:List Dat->Option Dat):Prop:=∀(c e:Nat) (k:FM.Kn) (qs:List Rat),qs.length<=900->c<=4000000->e<=4000000->(∀q∈qs,SR c q)->fg qs<2^e->F [.str (cB k),.list (qs.map qD)]=some (aI (FM.whole k qs))/\∀x∈(FM.whole k qs).2,x.natAbs<2^(c+e)
theorem wj:∀(qs:List Rat) (m:Nat),0<m->qs.foldl (λm q=>lcm m q.den) m<=m*fg qs
 |[],m,_=>by show m<=m*1;omega
 |q::qs,m,h=>by
  have p:=q.den_pos;have h1:=wj qs (lcm m q.den) (Nat.lcm_pos h p);refine le_trans h1 ?_;show _<=m*(q.den*fg qs);rw[<- Nat.mul_assoc];exact Nat.mul_le_mul_right _ (GO m q.den h p)
theorem NF(T:TX P K mg)(gk:Dn P w K mg base 41 "common_divisor" ["a","b"] 2 pR)(U:FnAt K mg "whole_row" (top 12) ["kind","fractions"]):
  ∃F,Dn P w K mg base 42 "whole_row" ["kind","fractions"] 2 F/\US F:=by
 refine⟨_,dI ["kind","fractions","multiple","n","d"] U λnd _ _ _ _ _ _ _ hr=>
  (ah (aL 2 nd ae)
  (ah (gR PassesOwn.never rfl (a7 1) (fm (n:=2) rfl (aX (aA 3 nd) (aX (aA 4 nd) cK)))
  (ak (aL 2 nd (g9 T.seer hr (bQ (a7 2) (a7 4)) (aR gk hr (a9 (a7 2) (a9 (a7 4) ag)))))))
  (ak (aJ (c9 (k:=0) (a9 (a7 0) (a9 (nr T.tuple (a9 (cS (gT rfl (cY (tn:=["n","d"]) (fv:=["multiple"]) (js:=[2]) rfl (by decide +kernel) (by decide +kernel) rfl (by decide +kernel) (by decide +kernel) rfl
   (λx hx=>by((have dF:x="multiple":=(by simpa using hx));(rcases dF with rfl<;>exact⟨_,rfl⟩)))
   (λp hp=>by((have cV:p=(("multiple" : Str),(2:Nat)):=(by simpa using hp));(rcases cV with rfl<;>exact⟨rfl,.inr (.inl rfl),.inl rfl,λz=>by cases z⟩)))) (pd (a7 1)) (λ_ _ _ _=>(fm (n:=2) rfl (aX (aA 0 (show(["n","d","multiple"]:List Str).Nodup by decide +kernel)) (aX (aA 1 (show(["n","d","multiple"]:List Str).Nodup by decide +kernel)) cK)))) (λ_ _ _ _=>bV) (λ_ _ _ _=>(bQ (a7 0) (g9 T.seer hr (a7 2) (a7 1)))) (qm rfl rfl))) ag)) ag (hs:=aV)))))))),?_⟩
 intro c e k qs hl hc he hq hP;have z2:2<=sizeLine:=sz (by decide);have zl:qs.length<sizeLine:=lt_of_lt_of_le (show qs.length<1000 by omega) (sz (by decide));have hL:FM.ie qs<2^e:=by
  have:=wj qs 1 (by decide);rw[Nat.one_mul]at this;exact lt_of_le_of_lt this hP
 have hLp:0<FM.ie qs:=FM.tR qs;constructor
 ·refine cJ ?_;simp!;rw[aU (aj:=[~~~.str (cB k),~~~.list (qs.map qD),~~~.int 1,none,none]) (by simp![])];refine jR (I:=_) (jL (l:=qs) (s:=1) qD (fun(m:Nat) Γ=>∃x3 x4,Γ=[~~~.str (cB k),~~~.list (qs.map qD),~~~.int (m:Int),x3,x4]) (λm l=>0<m/\m*fg l<2^e/\∀q∈l,q∈qs) (λm q=>lcm m q.den) (d:=.list (qs.map qD)) rfl rfl ⟨by decide,by rw[Nat.one_mul];exact hP,λ_ h=>h⟩ ⟨none,none,rfl⟩ ?_) ?_
  ·rintro m q l Γ ⟨h1,h2,h3⟩ ⟨x3,x4,rfl⟩;have p:=q.den_pos;have UA:m*q.den*fg l<2^e:=by rw[Nat.mul_assoc];exact h2
   have lp:=Dc l;have Uh:m*q.den<2^e:=lt_of_le_of_lt (Nat.le_mul_of_pos_right _ lp) UA;have xF:m<2^e:=lt_of_le_of_lt (Nat.le_mul_of_pos_right _ p) Uh;have Uo:q.den<2^e:=lt_of_le_of_lt (Nat.le_mul_of_pos_left _ h1) Uh;refine⟨[(3,.int q.num),(4,.int (q.den:Int))],rfl,?_⟩;dsimp!;have e1:pR [.int (m:Int),.int (q.den:Int)]=some (.int ((Nat.gcd m q.den:Nat):Int)):=by
    show(if 0<=(m:Int)/\0<=(q.den:Int)then some (Dat.int (gcd (m:Int) (q.den:Int)))else none)=_;rw[if_pos ⟨by omega,by omega⟩];rfl
   have gp:0<Nat.gcd m q.den:=Nat.gcd_pos_of_pos_left _ h1;have e2:=E8 (a:=(m:Int)) (b:=(q.den:Int)) (by rw[natAbs_natCast];exact gU xF (by omega)) (by rw[natAbs_natCast];exact gU Uo (by omega));have e3:=qX (a:=(m:Int)*(q.den:Int)) (b:=((Nat.gcd m q.den:Nat):Int)) (by omega) (lt_trans (log2_small (k:=4000000) (by decide) (by rw[natAbs_natCast];exact lt_of_le_of_lt (Nat.gcd_le_left _ h1) (gU xF he))) (by decide));rw[PQ]at e3;refine⟨[~~~.str (cB k),~~~.list (qs.map qD),~~~.int ((lcm m q.den:Nat):Int),~~~.int q.num,~~~.int (q.den:Int)],by simp![e1,e2,e3],⟨_,_,rfl⟩,Nat.lcm_pos h1 p,lt_of_le_of_lt (Nat.mul_le_mul_right _ (GO m q.den h1 p)) UA,λx hx=>h3 x (mem_cons_of_mem _ hx)⟩
  ·rintro aj ⟨x3,x4,rfl⟩;have eL:(qs.foldl (λm q=>lcm m q.den) 1:Nat)=FM.ie qs:=rfl;rw[eL];have ec:bT (je 2 (cR (aName 0) (cR (aName 1) jf))) fK (L3.f2 iM (aH 0) (L3.f2 lh (aH 2) (aH 1))) [none,none,some (.int (FM.ie qs:Int))] (qs.map qD)=some ((FM.whole k qs).2.map .int):=by
    refine fz _ _ (by rw[length_map,length_map];show _=(qs.map _).length;rw[length_map]) λi d o g1 g2=>?_;unfold FM.whole at g2;rw[getElem?_map]at g1 g2;rw[getElem?_map]at g2;cases hz:qs[i]? with
    |none=>rw[hz]at g1;cases g1
    |some q=>
     rw[hz]at g1 g2;cases g1;cases g2;have sX:=hq q (mem_of_getElem? hz);have p:=q.den_pos;refine⟨[(0,.int q.num),(1,.int (q.den:Int))],rfl,?_⟩;have e3:=qX (a:=(FM.ie qs:Int)) (b:=(q.den:Int)) (by omega) (lt_trans (log2_small (k:=4000000) (by decide) (by rw[natAbs_natCast];exact gU sX.ld hc)) (by decide));rw[zM]at e3;have e2:=E8 (a:=q.num) (b:=((FM.ie qs/q.den:Nat):Int)) (gU sX.ln (by omega)) (by rw[natAbs_natCast];exact lt_of_le_of_lt (Nat.div_le_self _ _) (gU hL (by omega)));simp![e3,e2]
   simp![gh,length_map,zl,ec,z2];rfl
 ·intro x hx;obtain⟨q,sX,rfl⟩:=mem_map.mp (show x∈qs.map (λq=>q.num*((FM.ie qs/q.den:Nat):Int))from hx);exact gI (hq q sX).ln (by rw[natAbs_natCast];exact lt_of_le_of_lt (Nat.div_le_self _ _) hL)
abbrev cm (o:FM.Ol):Dat:=.tuple [.str (cB o.1),.tuple (o.2.1.map qD),qD o.2.2]
def eN:Nat->List FM.Ol->List (Nat×FM.Ol)
 |_,[]=>[]
 |i,o::os=>(i,o)::eN (i+1) os
abbrev CZ (p:Nat×FM.Ol):Dat:=.tuple [.int (p.1:Int),cm p.2]
theorem Er:∀(os:List FM.Ol) (i:Nat),iA i (os.map cm)=(eN i os).map CZ
 |[],i=>rfl
 |o::os,i=>by rw[map_cons,iA,eN,map_cons,Er os (i+1)]
theorem AM:∀(os:List FM.Ol) (i:Nat),(eN i os).length=os.length
 |[],i=>rfl
 |o::os,i=>by rw[eN,length_cons,length_cons,AM os]
theorem AG(k:Nat):∀(os:List FM.Ol) (i:Nat),(FM.cC k i os).length=os.length
 |[],i=>rfl
 |o::os,i=>by rw[FM.cC,length_cons,length_cons,AG k os]
theorem CY(k:Nat):∀(os:List FM.Ol) (i:Nat) (acc:List FM.Row),(eN i os).foldl (λacc (p:Nat×FM.Ol)=>acc++[FM.whole p.2.1 (p.2.2.1++[0,p.2.2.2]++FM.aZ k p.1)]) acc=acc++FM.cC k i os
 |[],i,acc=>by show acc=acc++[];rw[append_nil]
 |o::os,i,acc=>by
  rw[eN,foldl_cons,CY k os (i+1),FM.cC,append_assoc];rfl
theorem HK:∀{os:List FM.Ol} {i:Nat} {p:Nat×FM.Ol},p∈eN i os->p.2∈os/\p.1<i+os.length
 |[],i,p,h=>by simp[eN]at h
 |o::os,i,p,h=>by
  rw[eN]at h;rcases mem_cons.mp h with e|h
  ·rw[e];exact⟨mem_cons_self,by rw[length_cons];omega⟩
  ·obtain⟨h1,h2⟩:=HK h;exact⟨mem_cons_of_mem _ h1,by rw[length_cons];omega⟩
theorem yE(a b:List Rat)(h:a.length+b.length<=1000):uh (.list (a.map qD)) (.list (b.map qD))=some (.list ((a++b).map qD)):=by
 show(if(a.map qD).length+(b.map qD).length<=sizeLine then some (Dat.list (a.map qD++b.map qD))else none)=_;rw[if_pos (by rw[length_map,length_map];exact sz h),map_append]
theorem LD{α:Type}(d:α):∀m:Nat,(List.replicate m [d]).flatten=List.replicate m d
 |0=>rfl
 |m+1=>by rw[replicate_succ,flatten_cons,LD d m,replicate_succ];rfl
theorem VO(j:Int)(h1:0<=j)(h2:j<=2000000):iF [.int j]=some (jt 0 j.toNat):=if_pos ⟨by omega,by omega⟩
theorem nR(n:Nat)(h:n<=2000000):iF [.int (n:Int)]=some (jt 0 n):=by
 have:=VO (n:Int) (by omega) (by omega);rw[toNat_natCast]at this;exact this
variable {ρ:ax}
theorem FV{fb:ax->Option Dat}(h:fb ρ=some (.int n))(hn:n<=100):ua (oJ (aO (fC (.tuple [.int 0,.int 1])) bS)) fb ρ=some ((List.replicate n (0:Rat)).map qD):=by
 have z1:1<=sizeLine:=sz (by decide);have zm:1*((n:Int).toNat)<=sizeLine:=by rw[Nat.one_mul,toNat_natCast];exact sz (by omega)
 have e1:oJ (aO (fC (.tuple [.int 0,.int 1])) bS) ρ=some [.tuple [.int 0,.int 1]]:=by
  show(if 1<=sizeLine then some [Dat.tuple [.int 0,.int 1]]else none)=_;exact if_pos z1
 unfold ua;rw[e1,Option.bind_some,h,Option.bind_some];show(if _ then some (List.replicate ((n:Int).toNat) [Dat.tuple [Dat.int 0,Dat.int 1]]).flatten else none)=_;rw[if_pos ⟨⟨by omega,by omega⟩,zm⟩,LD,List.map_replicate,toNat_natCast];rfl
theorem q0:qD 0=.tuple [.int 0,.int 1]:=rfl
theorem q1:qD 1=.tuple [.int 1,.int 1]:=rfl
variable {c:Nat}
theorem mF(h:1<=c):SR c 0:=⟨pow_pos (by decide),one_lt_two_pow (by omega)⟩
theorem FE(h:1<=c):SR c 1:=⟨one_lt_two_pow (by omega),one_lt_two_pow (by omega)⟩
theorem j3:∀a b:List Rat,fg (a++b)=fg a*fg b
 |[],b=>by show fg b=1*fg b;omega
 |q::a,b=>by show q.den*fg (a++b)=q.den*fg a*fg b;rw[j3 a b,Nat.mul_assoc]
theorem oK:∀{a:List Rat},(∀q∈a,q.den=1)->fg a=1
 |[],_=>rfl
 |q::a,h=>by show q.den*fg a=1;rw[h q mem_cons_self,oK λx hx=>h x (mem_cons_of_mem _ hx)]
theorem oS(h:q∈FM.aZ k i):q=0\/q=1:=by
 obtain⟨c,_,rfl⟩:=mem_map.mp h;split
 ·exact .inr rfl
 ·exact .inl rfl
structure Be (c e n:Nat) (o:FM.Ol):Prop where
 len:o.2.1.length=n
 sq:∀q∈o.2.1,SR c q
 bd:SR c o.2.2
 dn:fg o.2.1*o.2.2.den<2^e
abbrev Vj (F:List Dat->Option Dat):Prop:=∀(c e:Nat) (p:List Rat) (os:List FM.Ol),1<=c->c<=3000000->e<=4000000->p.length<=100->os.length<=100->(∀q∈p,SR c q)->fg p<2^e->(∀o∈os,Be c e p.length o)->F [.tuple (p.map qD),.list (os.map cm)]=some (.list ((FM.bh p os).map aI))
theorem neg_den(q:Rat):(0-q).den=q.den:=by
 have:(0:Rat)-q=-q:=by grind
 rw[this];exact Rat.neg_den q
theorem uO(h:SR c q):SR c (0-q):=by
 refine⟨?_,by rw[neg_den];exact h.ld⟩;have:(0:Rat)-q=-q:=by grind
 rw[this,Rat.neg_num,natAbs_neg];exact h.ln
theorem wB:∀p:List Rat,fg (p.map λq=>0-q)=fg p
 |[]=>rfl
 |q::p=>by show(0-q).den*fg (p.map λq=>0-q)=q.den*fg p;rw[neg_den,wB p]
variable {a1:Addr} {Fw:List Dat->Option Dat}
theorem NQ(T:TX P K mg){a2:Addr}(Z1:TC K mg "ZERO_elimination" [.int 0,.int 1] a1)(Z2:TC K mg "ONE_elimination" [.int 1,.int 1] a2)(vF:Dn P w K mg base 43 "whole_row" ["kind","fractions"] 2 Fw)(hW:US Fw)(rK:Dn P w K mg base 43 "minus" ["a","b"] 2 jP)(U:FnAt K mg "first_rows" (top 13) ["parts","others"]):
  ∃F,Dn P w K mg base 44 "first_rows" ["parts","others"] 2 F/\Vj F:=by
 refine⟨_,dI ["parts","others","rows","place","other","weights","less"] U λnd _ _ _ _ _ _ _ hr=>
  (ah (ju 2 nd (gm ag))
  (ah (jD PassesOwn.never rfl (nk T.enumerate (a9 (a7 1) ag)) (fm (n:=2) rfl (aX (aA 3 nd) (aX (aA 4 nd) cK)))
  (ah (p7 5 nd rfl (cY (tn:=["one"]) (fv:=["place"]) (js:=[3]) rfl (by decide +kernel) (by decide +kernel) rfl (by decide +kernel) (by decide +kernel) rfl
   (λx hx=>by((have dF:x="place":=(by simpa using hx));(rcases dF with rfl<;>exact⟨_,rfl⟩)))
   (λp hp=>by((have cV:p=(("place" : Str),(3:Nat)):=(by simpa using hp));(rcases cV with rfl<;>exact⟨rfl,.inr (.inl rfl),.inl rfl,λz=>by cases z⟩)))) (i8 T.range (a9 (dW T.len (a9 (a7 1) ag)) ag (hs:=aV))) (λ_ _ _ _=>(aA 0 (show(["one","place"]:List Str).Nodup by decide +kernel))) (λ_ _ _ _=>bV) (λ_ _ _ _=>(fw (cQ hr (a7 1) (a7 0)) (d6 Z2.mg Z2.tup) (d6 Z1.mg Z1.tup))) (cD rfl))
  (ak (jj 2 (aR vF hr (a9 (ao (a7 4) ae) (a9 (iJ (iJ (cS (nq T.list (a9 (ao (a7 4) ae) ag (hs:=b9)))) (jG (a9 (d6 Z1.mg Z1.tup) (a9 (ao (a7 4) ae) ag (hs:=b9))))) (a7 5)) ag (hs:=bF)) (hs:=b9)))))))
  (ah (jC 6 nd rfl (iS (N':=["part"])) (a7 0) (λ_ _ _ _=>(aA 0 (show(["part"]:List Str).Nodup by decide +kernel))) (λ_ _ _ _=>bV) (λ_ _ _ _=>(aR rK hr (a9 (d6 Z1.mg Z1.tup) (a9 (a7 0) ag)))) (cD rfl))
  (ah (jj 2 (aR vF hr (a9 cc (a9 (iJ (iJ (a7 6) (jG (a9 (d6 Z2.mg Z2.tup) (a9 (d6 Z1.mg Z1.tup) ag)))) (cS (zj (gm (a9 (d6 Z1.mg Z1.tup) ag)) (dW T.len (a9 (a7 1) ag))))) ag (hs:=bF)))))
  (ak (aJ (a7 2))))))),?_⟩
 intro c e p os ka hc he hp pZ lO Ad bR;have z0:0<=sizeLine:=zero_le _;have z1:1<=sizeLine:=sz (by decide);have z2:2<=sizeLine:=sz (by decide);have lo:=sk cm os;have Ac:oF (aO (aH 1) bS) (bG [~~~.tuple (p.map qD),~~~.list (os.map cm),some (.own ([])),none,none,none,none])=some ((eN 0 os).map CZ):=by
  rw[<- Er];rfl
 refine cJ ?_;simp!;rw[aU (aj:=[~~~.tuple (p.map qD),~~~.list (os.map cm),some (.own ([])),none,none,none,none]) (by simp![z0])];refine jR (I:=_) (qW (l:=eN 0 os) (s:=[]) CZ (fun(acc:List FM.Row) Γ=>∃x3 x4 x5,Γ=[~~~.tuple (p.map qD),~~~.list (os.map cm),some (.own (acc.map aI)),x3,x4,x5,none]) (λacc l=>acc.length+l.length<=100/\∀x∈l,x∈eN 0 os) (λacc (q:Nat×FM.Ol)=>acc++[FM.whole q.2.1 (q.2.2.1++[0,q.2.2.2]++FM.aZ os.length q.1)]) Ac ⟨by
   rw[AM];exact le_trans (Nat.le_of_eq (zero_add _)) pZ,λ_ h=>h⟩ ⟨none,none,none,rfl⟩ ?_) ?_
 ·rintro acc ⟨i,o⟩ l Γ ⟨hq,kz⟩ ⟨x3,x4,x5,rfl⟩;rw[length_cons]at hq;obtain⟨Xp,q5⟩:=HK (kz (i,o) mem_cons_self);have ho:=bR o Xp;refine⟨[(3,.int (i:Int)),(4,cm o)],rfl,?_⟩;dsimp!;have eR:iF [.int ((os.length:Nat):Int)]=some (jt 0 os.length):=nR os.length (by omega);have ec:bT (aName 0) fK (vd (bY (L3.f2 gi (aH 1) (aH 0))) (fC (.tuple [.int 1,.int 1])) (fC (.tuple [.int 0,.int 1]))) [none,some (.int (i:Int))] (jt 0 os.length)=some ((FM.aZ os.length i).map qD):=by
   refine fz _ _ (by rw[rS,length_map,FM.iB]) λn d o' h1 h2=>?_;obtain⟨hn,rfl⟩:=tG h1;refine⟨[(0,.int (0+(n:Int)))],rfl,?_⟩;rw[getElem?_map]at h2;have hu:(FM.aZ os.length i)[n]?=some (if i=n then 1 else 0):=by
    unfold FM.aZ;rw[getElem?_map,getElem?_range hn];rfl
   rw[hu]at h2;cases h2;by_cases ci:i=n
   ·have Ro:(i:Int)=0+(n:Int):=by omega
    rw[if_pos ci,q1];simp![cG,eq_true Ro]
   ·have Ro:¬(i:Int)=0+(n:Int):=by omega
    rw[if_neg ci,q0];simp![cG,eq_false Ro]
  have zn:os.length<sizeLine:=lt_of_lt_of_le (show os.length<1000 by omega) (sz (by decide));rw[aU (aj:=[~~~.tuple (p.map qD),~~~.list (os.map cm),some (.own (acc.map aI)),~~~.int (i:Int),~~~(cm o),~~~.list ((FM.aZ os.length i).map qD),none]) (BY (AW (kQ (as:=[.int ((os.length:Nat):Int)]) (by simp![lo]) eR) (by rw[rS];exact zn) ec))];have a1:=yE o.2.1 [0,o.2.2] (by rw[ho.len];show _+2<=_;omega);have a2:=yE (o.2.1++[0,o.2.2]) (FM.aZ os.length i) (by rw[length_append,ho.len,FM.iB];show _+2+_<=_;omega);have a1:uh (.list (o.2.1.map qD)) (.list [.tuple [.int 0,.int 1],qD o.2.2])=some (.list ((o.2.1++[0,o.2.2]).map qD)):=a1;obtain⟨ew,_⟩:=hW c e o.1 (o.2.1++[0,o.2.2]++FM.aZ os.length i) (by rw[length_append,length_append,ho.len,FM.iB];show _+2+_<=_;omega) (by omega) he (λq hq=>by
   rcases mem_append.mp hq with h|h
   ·rcases mem_append.mp h with h|h
    ·exact ho.sq q h
    ·rcases mem_cons.mp h with h|h
     ·rw[h];exact mF ka
     ·rw[mem_singleton.mp h];exact ho.bd
   ·rcases oS h with e|e
    ·rw[e];exact mF ka
    ·rw[e];exact FE ka) (by
   rw[j3,j3,oK (a:=FM.aZ os.length i) (λq hq=>by rcases oS hq with e|e<;>(rw[e];rfl)),mul_one];show fg o.2.1*(1*(o.2.2.den*1))<_;rw[Nat.one_mul,mul_one];exact ho.dn)
  have l1:sj [.tuple (o.2.1.map qD)]=some (o.2.1.map qD):=rfl;have zs:acc.length<sizeLine:=lt_of_lt_of_le (show acc.length<1000 by omega) (sz (by decide));refine⟨[~~~.tuple (p.map qD),~~~.list (os.map cm),some (.own (acc.map aI++[aI (FM.whole o.1 (o.2.1++[0,o.2.2]++FM.aZ os.length i))])),~~~.int (i:Int),~~~(cm o),~~~.list ((FM.aZ os.length i).map qD),none],?_,⟨_,_,_,by rw[map_append];rfl⟩,by rw[length_append];show acc.length+1+l.length<=100;omega,λx hx=>kz x (mem_cons_of_mem _ hx)⟩;simp![Wz,Wy,Wx,l1,a1,a2,ew,length_map,zs,z2]
 ·rintro aj ⟨x3,x4,x5,rfl⟩;rw[CY,nil_append];have zp:p.length<sizeLine:=lt_of_lt_of_le (show p.length<1000 by omega) (sz (by decide));have ec:bT (aName 0) fK (iR 2 jP (aO (fC (.tuple [.int 0,.int 1])) (aO (aH 0) bS))) [none] (p.map qD)=some ((p.map λq=>0-q).map qD):=by
   refine fz _ _ (by rw[length_map,length_map,length_map]) λn d o' h1 h2=>?_;rw[getElem?_map]at h1 h2;rw[getElem?_map]at h2;cases hz:p[n]? with
   |none=>rw[hz]at h1;cases h1
   |some q=>
    rw[hz]at h1 h2;cases h1;cases h2;refine⟨[(0,qD q)],rfl,?_⟩;have em:jP [.tuple [.int 0,.int 1],qD q]=some (qD (0-q)):=wO (mF (c:=1) (by decide)) (lO q (mem_of_getElem? hz)) (by decide) (by omega);simp![em]
  rw[aU (aj:=[~~~.tuple (p.map qD),~~~.list (os.map cm),some (.own ((FM.cC os.length 0 os).map aI)),x3,x4,x5,~~~.list ((p.map λq=>0-q).map qD)]) (by simp![lW,length_map,zp,ec])];have a1:=yE (p.map λq=>0-q) [1,0] (by rw[length_map];show _+2<=_;omega);have a2:=yE ((p.map λq=>0-q)++[1,0]) (List.replicate os.length 0) (by rw[length_append,length_map,length_replicate];show _+2+_<=_;omega);have a1:uh (.list ((p.map λq=>0-q).map qD)) (.list [.tuple [.int 1,.int 1],.tuple [.int 0,.int 1]])=some (.list ((p.map (λq=>0-q)++[1,0]).map qD)):=a1;obtain⟨ew,_⟩:=hW c e .eq ((p.map λq=>0-q)++[1,0]++List.replicate os.length 0) (by rw[length_append,length_append,length_map,length_replicate];show _+2+_<=_;omega) (by omega) he (λq hq=>by
   rcases mem_append.mp hq with h|h
   ·rcases mem_append.mp h with h|h
    ·obtain⟨x,hx,rfl⟩:=mem_map.mp h;exact uO (lO x hx)
    ·rcases mem_cons.mp h with h|h
     ·rw[h];exact FE ka
     ·rw[mem_singleton.mp h];exact mF ka
   ·rw[(mem_replicate.mp h).2];exact mF ka) (by
   rw[j3,j3,oK (a:=List.replicate os.length 0) (λq hq=>by rw[(mem_replicate.mp hq).2];rfl),mul_one,wB];show fg p*1<_;rw[mul_one];exact Ad)
  have er:fL (ua (oJ (aO (fC (.tuple [.int 0,.int 1])) bS)) (d8 j9 (aO (aH 1) bS))) (bG [~~~.tuple (p.map qD),~~~.list (os.map cm),some (.own ((FM.cC os.length 0 os).map aI)),x3,x4,x5,~~~.list ((p.map λq=>0-q).map qD)])=some (.list ((List.replicate os.length (0:Rat)).map qD)):=by
   unfold fL;rw[FV (n:=os.length) lo pZ];rfl
  have zf:(FM.cC os.length 0 os).length<sizeLine:=by
   rw[AG];exact lt_of_lt_of_le (show os.length<1000 by omega) (sz (by decide))
  have ks:cB .eq="=":=rfl;rw[ks]at ew;have Ws:(FM.bh p os).map aI=(FM.cC os.length 0 os).map aI++[aI (FM.whole .eq (p.map (λq=>0-q)++[1,0]++List.replicate os.length 0))]:=by
   show(FM.cC os.length 0 os++[_]).map aI=_;rw[map_append];rfl
  rw[Ws];generalize fL (ua (oJ (aO (fC (.tuple [.int 0,.int 1])) bS)) (d8 j9 (aO (aH 1) bS)))=gr at *;have er2:∀(y3 y4 y5:Option Dat),True:=λ_ _ _=>trivial;rw[aU (aj:=[~~~.tuple (p.map qD),~~~.list (os.map cm),some (.own ((FM.cC os.length 0 os).map aI++[aI (FM.whole .eq (p.map (λq=>0-q)++[1,0]++List.replicate os.length 0))])),x3,x4,x5,~~~.list ((p.map λq=>0-q).map qD)]) (by
   simp only[bG,map_cons,map_nil]at er;simp![er,a1,a2,ew,length_map,zf,z2])]
  simp![]
theorem DV{a b:Rat}:((a.num,(a.den:Int)):Int×Int)=(b.num,(b.den:Int))↔a=b:=by
 constructor
 ·intro h;obtain⟨h1,h2⟩:=Prod.mk.inj h;exact Rat.ext h1 (by omega)
 ·intro h;rw[h]
theorem LJ(a b:Rat):gi (qD a) (qD b)=some (.bool (decide (a=b))):=by
 have:=CT (a.num,(a.den:Int)) (b.num,(b.den:Int));rw[show decide ((a.num,(a.den:Int))=(b.num,(b.den:Int)))=decide (a=b)from decide_eq_decide.mpr DV]at this;exact this
theorem SA(a b:Rat):ix (qD a) (qD b)=some (.bool (!decide (a=b))):=by
 have:=N8 (a.num,(a.den:Int)) (b.num,(b.den:Int));rw[show decide ((a.num,(a.den:Int))=(b.num,(b.den:Int)))=decide (a=b)from decide_eq_decide.mpr DV]at this;exact this
theorem HW(T:TX P K mg)(Z1:TC K mg "ZERO_elimination" [.int 0,.int 1] a1)(Bk:Dn P w K mg base 43 "below" ["a","b"] 2 kX)(U:FnAt K mg "is_never" (top 26) ["kind","bound"]):
  ∃F,Dn P w K mg base 44 "is_never" ["kind","bound"] 2 F/\∀(n:Nat) (k:FM.Kn) (b:Rat),n<=4000000->SR n b->F [.str (cB k),qD b]=some (.bool (FM.cX k b)):=by
 refine⟨_,dI ["kind","bound"] U λnd _ _ _ _ _ _ _ hr=>
  (ah (bD (cQ hr (a7 0) cc) (ak (aJ (OT hr (a7 1) (d6 Z1.mg Z1.tup)))) ba)
  (ak (aJ (OS (aR Bk hr (a9 (a7 1) (a9 (d6 Z1.mg Z1.tup) ag))) (kJ (kL (iH hr (a7 0) cc) (kJ (iH hr (a7 1) (d6 Z1.mg Z1.tup))))))))),?_⟩
 intro n k b hn hb;have e1:ix (qD b) (.tuple [.int 0,.int 1])=some (.bool (!decide (b=0))):=SA b 0;have e2:gi (qD b) (.tuple [.int 0,.int 1])=some (.bool (decide (b=0))):=LJ b 0;have e3:kX [qD b,.tuple [.int 0,.int 1]]=some (.bool (decide (b<0))):=Dq hb (mF (c:=1) (by decide)) hn (by decide);by_cases c1:cB k="="
 ·have:=(iy k).mp c1;subst this;have er:FM.cX .eq b=!decide (b=0):=by show decide (b≠0)=_;rw[decide_not]
  rw[er];simp![cU,eq_true c1,e1]
 ·by_cases c2:cB k="<"
  ·have:=(Eb k).mp c2;subst this;have er:FM.cX .lt b=(decide (b<0) || decide (b=0)):=rfl;rw[er];by_cases c3:b<0
   ·rw[decide_eq_true c3]at e3 ⊢;simp![cU,eq_false c1,eq_true c2,e3,Bool.true_or]
   ·rw[decide_eq_false c3]at e3 ⊢;simp![cU,eq_false c1,eq_true c2,e3,e2,Bool.false_or]
  ·have hk:k=.le:=by
    cases k with
    |eq=>exact absurd rfl c1
    |lt=>exact absurd rfl c2
    |le=>rfl
   subst hk;have er:FM.cX .le b=decide (b<0):=rfl;rw[er];by_cases c3:b<0
   ·rw[decide_eq_true c3]at e3 ⊢;simp![cU,eq_false c1,eq_false c2,e3]
   ·rw[decide_eq_false c3]at e3 ⊢;simp![cU,eq_false c1,eq_false c2,e3]
abbrev k0 (b:Bool):Str:=if b=true then "<" else "<="
def dz:Option FM.fQ->Dat
 |none=>.none
 |some b=>.tuple [.str (k0 b.1),qD b.2.1,.list (b.2.2.map qD)]
theorem uS:jb .none .none=some (.bool true):=rfl
theorem ny(b:FM.fQ):jb (dz (some b)) .none=some (.bool false):=rfl
theorem qI(z:Int):qD (z:Rat)=.tuple [.int z,.int 1]:=rfl
variable {b:Nat} {z:Int}
theorem qq(hb:1<=b)(h:z.natAbs<2^b):SR b (z:Rat):=⟨h,one_lt_two_pow (by omega)⟩
def eQ:Nat->List Rat->List (Nat×Rat)
 |_,[]=>[]
 |i,x::xs=>(i,x)::eQ (i+1) xs
abbrev JS (p:Nat×Rat):Dat:=.tuple [.int (p.1:Int),qD p.2]
theorem LL:∀(xs:List Rat) (i:Nat),iA i (xs.map qD)=(eQ i xs).map JS
 |[],i=>rfl
 |x::xs,i=>by rw[map_cons,iA,eQ,map_cons,LL xs (i+1)]
theorem HM:∀{xs:List Rat} {i:Nat} {p:Nat×Rat},p∈eQ i xs->p.2∈xs/\p.1<i+xs.length
 |[],i,p,h=>by simp[eQ]at h
 |x::xs,i,p,h=>by
  rw[eQ]at h;rcases mem_cons.mp h with e|h
  ·rw[e];exact⟨mem_cons_self,by rw[length_cons];omega⟩
  ·obtain⟨h1,h2⟩:=HM h;exact⟨mem_cons_of_mem _ h1,by rw[length_cons];omega⟩
theorem D0(r:FM.Row):∀(xs:List Rat) (i:Nat) (acc:Rat),(eQ i xs).foldl (λacc (p:Nat×Rat)=>if FM.ent r p.1≠0 then acc-(FM.ent r p.1:Rat)*p.2 else acc) acc=FM.sx r i xs acc
 |[],i,acc=>rfl
 |x::xs,i,acc=>by
  rw[eQ,foldl_cons,D0 r xs (i+1)];rfl
inductive nJ:List Rat->Nat->Prop
 |nil:nJ [] 0
 |zero {xs:List Rat} {C:Nat} {q:Rat}:q=0->nJ xs C->nJ (q::xs) C
 |cons {xs:List Rat} {C s:Nat} {q:Rat}:SR s q->nJ xs C->nJ (q::xs) (C+s+1)
variable {C:Nat}
theorem nJ.mem{xs:List Rat}(h:nJ xs C):∀q∈xs,SR (C+1) q:=by
 induction h with
 |nil=>intro q hq;cases hq
 |zero h0 _ ih=>
  intro q hq;rcases mem_cons.mp hq with e|e
  ·rw[e,h0];exact⟨pow_pos (by decide),one_lt_two_pow (by omega)⟩
  ·exact ih q e
 |cons hs _ ih=>
  intro q hq;rcases mem_cons.mp hq with e|e
  ·rw[e];exact hs.up (by omega)
  ·exact(ih q e).up (by omega)
def Nd (u d:Nat) (q:Rat):Prop:=∃N D:Int,D≠0/\N.natAbs<2^u/\D.natAbs<=2^d/\q=(N:Rat)/(D:Rat)
theorem mm(h0:p≠0)(hz:z.natAbs<2^b)(hp:p.natAbs<2^b):SR b ((z:Rat)/(p:Rat)):=by
 obtain⟨e1,e2⟩:=Fr.nU z p h0;exact DE h0 e1 e2 hz hp
theorem Nd.sr{u d:Nat}(h:Nd u d q)(hd:d<u):SR u q:=by
 obtain⟨N,D,h0,hN,hD,rfl⟩:=h;exact mm h0 hN (lt_of_le_of_lt hD (Nat.pow_lt_pow_right (by decide) hd))
theorem GF(h:z.natAbs<2^b):Nd b 0 (z:Rat):=⟨z,1,by decide,h,by decide,by
 have:((1:Int):Rat)=1:=rfl;rw[this];grind⟩
theorem Cq{s:Nat}{acc y:Rat}(h:Nd (b+C) C acc)(ha:a.natAbs<2^b)(hy:SR s y):Nd (b+(C+s+1)) (C+s+1) (acc-(a:Rat)*y):=by
 obtain⟨N,D,h0,hN,hD,rfl⟩:=h;have yp:(y.den:Int)≠0:=HQ y;refine⟨N*(y.den:Int)-a*y.num*D,D*(y.den:Int),mul_ne_zero h0 yp,?_,?_,?_⟩
 ·have h1:(N*(y.den:Int)).natAbs<2^(b+C+s):=gI hN hy.dn;have h2:(a*y.num*D).natAbs<2^(b+C+s):=by
   rw[natAbs_mul,show b+C+s=(b+s)+C by omega,pow_add];have h3:=gI ha hy.ln;have p:=pow_pos (n:=C) (show 0<2 by decide);exact lt_of_le_of_lt (Nat.mul_le_mul_left _ hD) (Nat.mul_lt_mul_of_pos_right h3 p)
  rw[show b+(C+s+1)=b+C+s+1 by omega];exact Ru h1 h2
 ·rw[natAbs_mul];refine le_trans (mul_le_mul hD (Nat.le_of_lt hy.dn)) ?_;rw[<- pow_add];exact pow_le_pow_right (by decide) (by omega)
 ·have e1:y=(y.num:Rat)/((y.den:Int):Rat):=by
   have:((y.den:Int):Rat)=(y.den:Rat):=rfl;rw[this,<- Rat.mkRat_eq_div,mkRat_self]
  have d1:((D:Int):Rat)≠0:=λz=>h0 (FM.cA.mp z);have d2:(((y.den:Int)):Rat)≠0:=λz=>yp (FM.cA.mp z);rw[Rat.intCast_sub,intCast_mul,intCast_mul,intCast_mul,intCast_mul];conv=>lhs;rw[e1]
  generalize ((y.den:Int):Rat)=dd at *;generalize (y.num:Rat)=nn at *;grind
theorem Nd.up{u d u' d':Nat}(h:Nd u d q)(hu:u<=u')(hd:d<=d'):Nd u' d' q:=by
 obtain⟨N,D,h0,hN,hD,e⟩:=h;exact⟨N,D,h0,gU hN hu,le_trans hD (pow_le_pow_right (by decide) hd),e⟩
theorem Cv(r:FM.Row){b:Nat}(hr:∀z∈r.2,z.natAbs<2^b):∀(xs:List Rat) (i C C1:Nat) (acc:Rat),Nd (b+C) C acc->nJ xs C1->Nd (b+(C+C1)) (C+C1) (FM.sx r i xs acc)
 |[],i,C,C1,acc,h,hx=>by cases hx;exact h
 |x::xs,i,C,C1,acc,h,hx=>by
  have key:∃C2 C3,C2+C3=C+C1/\nJ xs C3/\Nd (b+C2) C2 (if FM.ent r i≠0 then acc-(FM.ent r i:Rat)*x else acc):=by
   cases hx with
   |zero h0 hx=>
    refine⟨C,C1,rfl,hx,?_⟩;rw[h0,show acc-(FM.ent r i:Rat)*0=acc by grind];split<;>exact h
   | @cons _ C' s _ hs hx=>
    refine⟨C+s+1,C',by omega,hx,?_⟩;split
    ·exact Cq h (dR hr) hs
    ·exact h.up (by omega) (by omega)
  obtain⟨C2,C3,e,h3,h4⟩:=key;rw[<- e];exact Cv r hr xs (i+1) C2 C3 _ h4 h3
abbrev dZ (F:List Dat->Option Dat):Prop:=∀(b C:Nat) (r:FM.Row) (x:List Rat),1<=b->x.length<r.2.length->x.length<=100->(∀z∈r.2,z.natAbs<2^b)->nJ x C->b+C+1<=4000000->F [aI r,.list (x.map qD)]=some (qD (FM.ma r x))/\Nd (b+C) C (FM.ma r x)
theorem HL:∀(xs:List Rat) (i:Nat),(eQ i xs).map (λp=>p.2)=xs
 |[],i=>rfl
 |x::xs,i=>by show x::(eQ (i+1) xs).map _=_;rw[HL xs]
theorem Rj(T:TX P K mg)(rK:Dn P w K mg base 43 "minus" ["a","b"] 2 jP)(RQ:Dn P w K mg base 43 "times" ["a","b"] 2 ic)(U:FnAt K mg "left_over" (top 21) ["row","point"]):
  ∃F,Dn P w K mg base 44 "left_over" ["row","point"] 2 F/\dZ F:=by
 refine⟨_,dI ["row","point","left","place","number","part"] U λnd _ _ _ _ _ _ _ hr=>
  (ah (aL 2 nd (c9 (k:=0) (a9 (ao (ao (a7 0) ae) (dW T.len (a9 (a7 1) ag))) (a9 ae ag) (hs:=b9))))
  (ah (jD PassesOwn.never rfl (nk T.enumerate (a9 (a7 1) ag)) (fm (n:=2) rfl (aX (aA 3 nd) (aX (aA 4 nd) cK)))
  (ah (aL 5 nd (ao (ao (a7 0) ae) (a7 3)))
  (ak (bD (fS hr (a7 5) ae) (ak (aL 2 nd (aR rK hr (a9 (a7 2) (a9 (aR RQ hr (a9 (c9 (k:=0) (a9 (a7 5) (a9 ae ag))) (a9 (a7 4) ag) (hs:=gP))) ag (hs:=aV)))))) ba))))
  (ak (aJ (a7 2))))),?_⟩
 intro b C r x hb hl JP hr hx hbud;have z2:2<=sizeLine:=sz (by decide);have lo:=sk qD x;have a0:bf (fu r.2) (.int (x.length:Int))=some (.int (FM.ent r x.length)):=gG hl;refine⟨?_,by
  have:=Cv r hr x 0 0 C (FM.ent r x.length:Rat) (GF (dR hr)) hx;rw[zero_add]at this;exact this⟩
 have Ac:oF (aO (aH 1) bS) (bG [~~~(aI r),~~~.list (x.map qD),~~~(qD (FM.ent r x.length:Rat)),none,none,none])=some ((eQ 0 x).map JS):=by
  rw[<- LL];rfl
 refine cJ ?_;simp!;rw[aU (aj:=[~~~(aI r),~~~.list (x.map qD),~~~(qD (FM.ent r x.length:Rat)),none,none,none]) (by rw[qI];dsimp![iw,lo,a0,z2])];refine jR (I:=_) (qW (l:=eQ 0 x) (s:=(FM.ent r x.length:Rat)) JS (fun(acc:Rat) Γ=>∃x3 x4 x5,Γ=[~~~(aI r),~~~.list (x.map qD),~~~(qD acc),x3,x4,x5]) (λacc l=>∃C2 C3,C2+C3=C/\Nd (b+C2) C2 acc/\nJ (l.map λp=>p.2) C3/\∀p∈l,p∈eQ 0 x) (λacc (p:Nat×Rat)=>if FM.ent r p.1≠0 then acc-(FM.ent r p.1:Rat)*p.2 else acc) Ac ⟨0,C,by omega,GF (dR hr),by rw[HL];exact hx,λ_ h=>h⟩ ⟨none,none,none,rfl⟩ ?_) ?_
 ·rintro acc ⟨i,y⟩ l Γ ⟨C2,C3,hC,hs,Ld,kz⟩ ⟨x3,x4,x5,rfl⟩;obtain⟨hy,hi⟩:=HM (kz (i,y) mem_cons_self);have sy:=hx.mem y hy;have wq:∀p∈l,p∈eQ 0 x:=λp hp=>kz p (mem_cons_of_mem _ hp);have hQ:∃C2 C3,C2+C3=C/\Nd (b+C2) C2 (if FM.ent r i≠0 then acc-(FM.ent r i:Rat)*y else acc)/\nJ (l.map λp=>p.2) C3/\∀p∈l,p∈eQ 0 x:=by
   rw[map_cons]at Ld;cases Ld with
   |zero h0 hx=>
    refine⟨C2,C3,hC,?_,hx,wq⟩;have h0:y=0:=h0;rw[h0,show acc-(FM.ent r i:Rat)*0=acc by grind];split<;>exact hs
   | @cons _ C' s _ sW hx=>
    refine⟨C2+s+1,C',by omega,?_,hx,wq⟩;split
    ·exact Cq hs (dR hr) sW
    ·exact hs.up (by omega) (by omega)
  refine⟨[(3,.int (i:Int)),(4,qD y)],rfl,?_⟩;dsimp!;have a1:bf (fu r.2) (.int (i:Int))=some (.int (FM.ent r i)):=gG (by have:i<0+x.length:=hi;omega);rw[aU (aj:=[~~~(aI r),~~~.list (x.map qD),~~~(qD acc),~~~.int (i:Int),~~~(qD y),~~~.int (FM.ent r i)]) (by dsimp![iw,a1])];by_cases c:FM.ent r i=0
  ·refine⟨[~~~(aI r),~~~.list (x.map qD),~~~(qD acc),~~~.int (i:Int),~~~(qD y),~~~.int (FM.ent r i)],?_,⟨_,_,_,by rw[if_neg (λz=>z c)]⟩,hQ⟩;simp![fT,eq_true c]
  ·have e1:ic [.tuple [.int (FM.ent r i),.int 1],qD y]=some (qD ((FM.ent r i:Rat)*y)):=oP (qq hb (dR hr)) sy (by omega) (by omega);have sp:SR (b+(C+1)) ((FM.ent r i:Rat)*y):=(qq hb (dR (j:=i) hr)).mul sy;have e2:=wO (hs.sr (by omega)) sp (by omega) (by omega);refine⟨[~~~(aI r),~~~.list (x.map qD),~~~(qD (acc-(FM.ent r i:Rat)*y)),~~~.int (i:Int),~~~(qD y),~~~.int (FM.ent r i)],?_,⟨_,_,_,by rw[if_pos c]⟩,hQ⟩;simp![fT,eq_false c,z2,e1,e2]
 ·rintro aj ⟨x3,x4,x5,rfl⟩;rw[D0];simp![];rfl
theorem HX(h:m<=ds.length):L3.cutD ds (some (m:Int)) none=ds.drop m:=by
 unfold L3.cutD;rw[HT.oo,HT.p0,Nat.min_eq_left h,take_of_length_le (by rw[length_drop];omega)]
theorem Oz(l:List Int)(h:j+1<=l.length):xh (fu l) (some ((j:Int)+1)) none=some (fu (l.drop (j+1))):=by
 show(if ¬(HT.cw (l.map Dat.int).length 0 (some ((j+1:Nat):Int))=0/\HT.cw (l.map Dat.int).length (l.map Dat.int).length none=(l.map Dat.int).length)then some (Dat.tuple (L3.cutD (l.map Dat.int) (some ((j+1:Nat):Int)) none))else none)=_;rw[if_pos (by rw[HT.oo,length_map];omega),HX (by rw[length_map];exact h),<- map_drop]
theorem Jv(h:p≠0)(hb:p.natAbs<2^8000000):f9 [.int z,.int p]=some (qD ((z:Rat)/(p:Rat))):=by
 obtain⟨e1,e2⟩:=Fr.nU z p h;rw[kN h hb,e1,e2]
abbrev UU (F:List Dat->Option Dat):Prop:=∀(b C m j:Nat) (rows:List FM.Row) (x:List Rat) (way:Int),(way=1\/way=-1)->1<=b->lV m b rows->x.length<m->m<=900->x.length<=100->j<m->nJ x C->b+C+1<=4000000->F [.list (rows.map aI),.int (j:Int),.list (x.map qD),.int way]=some (dz (FM.ip rows j x way))/\∀t,FM.ip rows j x way=some t->SR (b+C) t.2.1
theorem N9(h:Nd (b+C) C q)(hz:z.natAbs<2^b)(h0:z≠0):SR (b+C) (q/(z:Rat)):=by
 obtain⟨N,D,Uw,hN,hD,rfl⟩:=h;have e:(N:Rat)/(D:Rat)/(z:Rat)=(N:Rat)/((D*z:Int):Rat):=by
  have d1:((D:Int):Rat)≠0:=λz=>Uw (FM.cA.mp z);have d2:((z:Int):Rat)≠0:=λy=>h0 (FM.cA.mp y);rw[intCast_mul];grind
 rw[e];refine mm (mul_ne_zero Uw h0) hN ?_;rw[natAbs_mul,add_comm b C,pow_add];exact lt_of_le_of_lt (Nat.mul_le_mul_right _ hD) (Nat.mul_lt_mul_of_pos_left hz (pow_pos (by decide)))
theorem Pl(h:z≠0):((z:Rat)).num≠0:=h
theorem NI(T:TX P K mg){Fl:List Dat->Option Dat}(F3:Dn P w K mg base 44 "left_over" ["row","point"] 2 Fl)(hL:dZ Fl)(Tf:Dn P w K mg base 44 "over" ["a","b"] 2 vE)(Bk:Dn P w K mg base 44 "below" ["a","b"] 2 kX)(ll:Dn P w K mg base 44 "make" ["n","d"] 2 f9)(U:FnAt K mg "tightest" (top 22) ["rows","place","point","way"]):
  ∃F,Dn P w K mg base 45 "tightest" ["rows","place","point","way"] 4 F/\UU F:=by
 refine⟨_,dI ["rows","place","point","way","best","row","part","kind","number"] U λnd _ _ _ _ _ _ _ hr=>
  (ah (aL 4 nd bU)
  (ah (gR PassesOwn.never rfl (a7 0) (aA 5 nd)
  (ah (aL 6 nd (bQ (a7 3) (ao (ao (a7 5) ae) (a7 1))))
  (ak (bD (fD (gC (rW (a7 6) ae) (gS (fD (kI (mv (a7 6) ae) (jE (cQ hr (ao (a7 5) ae) cc))))))) (ah (aL 7 nd (fw (cQ hr (ao (a7 5) ae) cc) cc cc))
  (ah (aL 8 nd (aR Tf hr (a9 (aR F3 hr (a9 (a7 5) (a9 (a7 2) ag))) (a9 (c9 (k:=0) (a9 (a7 6) (a9 ae ag))) ag (hs:=gP)) (hs:=aV))))
  (ak (bD (fD (gC (fE (a7 4) bU) (gC (fo (aR Bk hr (a9 (a7 8) (a9 (ao (a7 4) ae) ag (hs:=b9))))) (gS (fD (kI (cQ hr (a7 8) (ao (a7 4) ae)) (jE (cQ hr (a7 7) cc)))))))) (ak (aL 4 nd (c9 (k:=0) (a9 (a7 7) (a9 (a7 8) (a9 (cS (iG rfl (cY (tn:=["weight"]) (fv:=["part"]) (js:=[6]) rfl (by decide +kernel) (by decide +kernel) rfl (by decide +kernel) (by decide +kernel) rfl
   (λx hx=>by((have dF:x="part":=(by simpa using hx));(rcases dF with rfl<;>exact⟨_,rfl⟩)))
   (λp hp=>by((have cV:p=(("part" : Str),(6:Nat)):=(by simpa using hp));(rcases cV with rfl<;>exact⟨rfl,.inr (.inl rfl),.inl rfl,λz=>by cases z⟩)))) (fY (ao (a7 5) ae) (gK (cW (dW T.len (a9 (a7 2) ag)) ae)) gL) (λ_ _ _ _=>(aA 0 (show(["weight","part"]:List Str).Nodup by decide +kernel))) (λ_ _ _ _=>bV) (λ_ _ _ _=>(aR ll hr (a9 (a7 0) (a9 (a7 1) ag)))) (cD rfl))) ag)))))) ba)))) ba))))
  (ak (aJ (a7 4))))),?_⟩
 intro b C m j rows x way k8 hb hR U6 oG JP hj hx hsz;have z2:2<=sizeLine:=sz (by decide);have z3:3<=sizeLine:=sz (by decide);have lo:=sk qD x;have wb:∀r∈rows,(way*FM.ent r j).natAbs<2^b:=λr hr=>by
  have:=dR (j:=j) (hR.bd r hr);rcases k8 with e|e
  ·rw[e,one_mul];exact this
  ·rw[e,Int.neg_mul,one_mul,natAbs_neg];exact this
 have Pm:∀r∈rows,way*FM.ent r j≠0->SR (b+C) (FM.ef j way x r):=λr hr h0=>by
  obtain⟨_,sl⟩:=hL b C r x hb (by rw[hR.len r hr];exact U6) JP (hR.bd r hr) hx hsz;exact N9 sl (wb r hr) h0
 have tS:∀(l:List FM.Row) (t:Option FM.fQ),(∀r∈l,r∈rows)->(∀y,t=some y->SR (b+C) y.2.1)->∀y,l.foldl (FM.jQ j way x) t=some y->SR (b+C) y.2.1:=λl=>by
  induction l with
  |nil=>intro t _ h;exact h
  |cons r l ih=>
   intro t kz h;refine ih (FM.jQ j way x t r) (λq hq=>kz q (mem_cons_of_mem _ hq)) λy hy=>?_;unfold FM.jQ at hy;split at hy
   ·rename_i hc;split at hy
    ·cases hy;refine Pm r (kz r mem_cons_self) ?_;rcases hc with h|h
     ·omega
     ·have:=h.1;omega
    ·exact h y hy
   ·exact h y hy
 refine⟨?_,tS rows none (λ_ h=>h) (λy h=>by cases h)⟩;refine cJ ?_;simp!;rw[aU (aj:=[~~~.list (rows.map aI),~~~.int (j:Int),~~~.list (x.map qD),~~~.int way,~~~(dz none),none,none,none,none]) (by simp![dz])];refine jR (I:=_) (jL (l:=rows) (s:=(none:Option FM.fQ)) aI (fun(t:Option FM.fQ) Γ=>∃x5 x6 x7 x8,Γ=[~~~.list (rows.map aI),~~~.int (j:Int),~~~.list (x.map qD),~~~.int way,~~~(dz t),x5,x6,x7,x8]) (λt l=>(∀y,t=some y->SR (b+C) y.2.1)/\∀r∈l,r∈rows) (FM.jQ j way x) (d:=.list (rows.map aI)) rfl rfl ⟨λy h=>(by cases h),λ_ h=>h⟩ ⟨none,none,none,none,rfl⟩ ?_) ?_
 ·rintro t r l Γ ⟨ht,kz⟩ ⟨x5,x6,x7,x8,rfl⟩;have hr:=kz r mem_cons_self;have hQ:(∀y,FM.jQ j way x t r=some y->SR (b+C) y.2.1)/\∀q∈l,q∈rows:=⟨tS [r] t (λq hq=>by rw[mem_singleton.mp hq];exact hr) ht,λq hq=>kz q (mem_cons_of_mem _ hq)⟩;have a1:bf (fu r.2) (.int (j:Int))=some (.int (FM.ent r j)):=gG (by rw[hR.len r hr];exact hj);have em:iM (.int way) (.int (FM.ent r j))=some (.int (way*FM.ent r j)):=mulL _ (by rcases k8 with e|e<;>(rw[e];decide)) (by rcases k8 with e|e<;>(rw[e];decide));refine⟨[(5,aI r)],rfl,?_⟩;dsimp!;rw[aU (aj:=[~~~.list (rows.map aI),~~~.int (j:Int),~~~.list (x.map qD),~~~.int way,~~~(dz t),~~~(aI r),~~~.int (way*FM.ent r j),x7,x8]) (by dsimp![iw,a1,em])];by_cases hc:FM.mX j way r
  ·have h0:way*FM.ent r j≠0:=by
    rcases hc with h|h
    ·omega
    ·have:=h.1;omega
   rw[p4 (by
    rcases hc with h|⟨h,hk⟩
    ·dsimp![ib,eq_true h]
    ·have h':¬0<way*FM.ent r j:=by omega
     have k1:=(iy r.1).mpr hk;dsimp![ib,fU,kr,cU,eq_false h',eq_true h,eq_true k1])]
   obtain⟨eL,sl⟩:=hL b C r x hb (by rw[hR.len r hr];exact U6) JP (hR.bd r hr) hx hsz;have eo:vE [qD (FM.ma r x),.tuple [.int (way*FM.ent r j),.int 1]]=some (qD (FM.ef j way x r)):=RD (sl.sr (by omega)) (qq hb (wb r hr)) (by omega) (by omega) (Pl h0);have sn:=Pm r hr h0;have ek:(if r.1=.lt then("<" : Str)else "<=")=k0 (decide (r.1=.lt)):=by unfold k0;by_cases c:r.1=.lt<;>simp[c]
   rw[aU (aj:=[~~~.list (rows.map aI),~~~.int (j:Int),~~~.list (x.map qD),~~~.int way,~~~(dz t),~~~(aI r),~~~.int (way*FM.ent r j),~~~.str (k0 (decide (r.1=.lt))),x8]) (by
    by_cases c:r.1=.lt
    ·have k1:=(Eb r.1).mpr c;rw[decide_eq_true c];dsimp![kr,cU,eq_true k1,k0]
    ·have k1:¬cB r.1="<":=λz=>c ((Eb r.1).mp z);rw[decide_eq_false c];dsimp![kr,cU,eq_false k1,k0])]
   rw[aU (aj:=[~~~.list (rows.map aI),~~~.int (j:Int),~~~.list (x.map qD),~~~.int way,~~~(dz t),~~~(aI r),~~~.int (way*FM.ent r j),~~~.str (k0 (decide (r.1=.lt))),~~~(qD (FM.ef j way x r))]) (by dsimp![eL,eo,z2])];have eb:FM.jQ j way x t r=if FM.better t (decide (r.1=.lt)) (FM.ef j way x r)=true then some (decide (r.1=.lt),FM.ef j way x r,FM.o8 j way x r)else t:=if_pos hc;generalize hkt:decide (r.1=.lt)=kt at *;generalize hv:FM.ef j way x r=v at *;have hN:b+C<=4000000:=by omega
   have Uk:gi (.str (k0 kt)) (.str "<")=some (.bool kt):=by cases kt<;>rfl
   have test:lI (bY (L3.f2 jb (aH 4) (fC .none))) (lI (o6 (iR 2 kX (aO (aH 8) (aO (L3.f2 bf (aH 4) (fC (.int 1))) bS)))) (mh (bY (L3.f2 gi (aH 8) (L3.f2 bf (aH 4) (fC (.int 1))))) (bY (L3.f2 gi (aH 7) (fC (.str "<")))))) (bE [~~~.list (rows.map aI),~~~.int (j:Int),~~~.list (x.map qD),~~~.int way,~~~(dz t),~~~(aI r),~~~.int (way*FM.ent r j),~~~.str (k0 kt),~~~(qD v)])=some (FM.better t kt v):=by
    cases t with
    |none=>
     have e0:dz none=.none:=rfl;have er:FM.better none kt v=true:=rfl;rw[er,e0];dsimp![uS]
    |some y=>
     have er:FM.better (some y) kt v=(decide (v<y.2.1) || (decide (v=y.2.1)&&kt)):=rfl;have a2:bf (dz (some y)) (.int 1)=some (qD y.2.1):=rfl;have e1:=Dq sn (ht y rfl) hN hN;have e2:=LJ v y.2.1;rw[er];by_cases c1:v<y.2.1
     ·rw[decide_eq_true c1]at e1 ⊢;dsimp![ny,a2,e1,Bool.true_or]
     ·rw[decide_eq_false c1]at e1 ⊢;by_cases c2:v=y.2.1
      ·rw[decide_eq_true c2]at e2 ⊢;cases kt with
       |true=>dsimp![ny,a2,e1,e2,Uk,Bool.false_or,Bool.true_and]
       |false=>dsimp![ny,a2,e1,e2,Uk,Bool.false_or,Bool.true_and]
      ·rw[decide_eq_false c2]at e2 ⊢;dsimp![ny,a2,e1,e2,Bool.false_or,Bool.false_and]
   cases xH:FM.better t kt v with
   |false=>
    rw[xH]at test eb;rw[if_neg Bool.false_ne_true]at eb;refine⟨[~~~.list (rows.map aI),~~~.int (j:Int),~~~.list (x.map qD),~~~.int way,~~~(dz t),~~~(aI r),~~~.int (way*FM.ent r j),~~~.str (k0 kt),~~~(qD v)],?_,⟨_,_,_,_,by rw[eb]⟩,hQ⟩;rw[uF test];rfl
   |true=>
    rw[xH]at test eb;rw[if_pos rfl]at eb;refine⟨[~~~.list (rows.map aI),~~~.int (j:Int),~~~.list (x.map qD),~~~.int way,~~~(dz (some (kt,v,FM.o8 j way x r))),~~~(aI r),~~~.int (way*FM.ent r j),~~~.str (k0 kt),~~~(qD v)],?_,⟨_,_,_,_,by rw[eb]⟩,hQ⟩;rw[p4 test];have es:=Oz r.2 (j:=x.length) (by rw[hR.len r hr];omega);have zd:(r.2.drop (x.length+1)).length<sizeLine:=by rw[length_drop,hR.len r hr];exact lt_of_lt_of_le (show m-(x.length+1)<1000 by omega) (sz (by decide))
    have ec:bT (aName 0) fK (iR 2 f9 (aO (aH 0) (aO (aH 1) bS))) [none,some (.int (way*FM.ent r j))] ((r.2.drop (x.length+1)).map .int)=some ((FM.o8 j way x r).map qD):=by
     refine fz _ _ (by unfold FM.o8;rw[length_map,length_map,length_map]) λi d o h1 h2=>?_;unfold FM.o8 at h2;rw[getElem?_map]at h1 h2;rw[getElem?_map]at h2;cases hz:(r.2.drop (x.length+1))[i]? with
     |none=>rw[hz]at h1;cases h1
     |some z=>
      rw[hz]at h1 h2;cases h1;cases h2;refine⟨[(0,.int z)],rfl,?_⟩;have e:=Jv (z:=z) h0 (gU (wb r hr) (by omega));simp![e]
    have YH:dz (some (kt,v,FM.o8 j way x r))=.tuple [.str (k0 kt),qD v,.list ((FM.o8 j way x r).map qD)]:=rfl;rw[YH];dsimp![iw,lH,jV,jW,rA,lo,bX,es,length_map,zd,ec,z3]
  ·have eb:FM.jQ j way x t r=t:=if_neg hc;refine⟨[~~~.list (rows.map aI),~~~.int (j:Int),~~~.list (x.map qD),~~~.int way,~~~(dz t),~~~(aI r),~~~.int (way*FM.ent r j),x7,x8],?_,⟨_,_,_,_,by rw[eb]⟩,hQ⟩;rw[uF (by
    have h1:¬0<way*FM.ent r j:=λz=>hc (.inl z);by_cases h2:way*FM.ent r j<0
    ·have k1:¬cB r.1="=":=λz=>hc (.inr ⟨h2,(iy r.1).mp z⟩);dsimp![ib,fU,kr,cU,eq_false h1,eq_true h2,eq_false k1]
    ·dsimp![ib,fU,kr,cU,eq_false h1,eq_false h2])]
   rfl
 ·rintro aj ⟨x5,x6,x7,x8,rfl⟩;simp![];rfl
abbrev dX (rows:List FM.Row):Dat:=.list (rows.map aI)
theorem Dl(g:α->Dat){xs:List α}{x:α}(hl:xs.length=n+1)(h:xs[n]?=some x):bf (.list (xs.map g)) (.int (-1))=some (g x):=by
 show gH (xs.map g) (-1)=_;unfold L2.gH L2.lM;rw[if_neg (by decide),if_pos (by rw[length_map];omega)];show(xs.map g)[((-1:Int)+((xs.map g).length:Int)).toNat]?=_;rw[length_map,hl,show((-1:Int)+((n+1:Nat):Int)).toNat=n by omega,getElem?_map,h];rfl
theorem AU:∀n:Nat,nJ (List.replicate n 0) 0
 |0=>.nil
 |n+1=>.zero rfl (AU n)
abbrev Z4 (F:List Dat->Option Dat):Prop:=∀(b n m:Nat) (Ls:List (List FM.Row)) (rows:List FM.Row) (way:Int),(way=1\/way=-1)->1<=b->Ls.length=n+1->Ls[n]?=some rows->lV m b rows->n+1<m->m<=900->n<=90->b<=3900000->F [.list (Ls.map dX),.int way]=some (dz (FM.endOf n rows way))/\∀t,FM.endOf n rows way=some t->SR b t.2.1
theorem NS(T:TX P K mg)(Z1:TC K mg "ZERO_elimination" [.int 0,.int 1] a1){Ft:List Dat->Option Dat}(Iy:Dn P w K mg base 45 "tightest" ["rows","place","point","way"] 4 Ft)(hT:UU Ft)(U:FnAt K mg "end_of" (top 23) ["stages","way"]):
  ∃F,Dn P w K mg base 46 "end_of" ["stages","way"] 2 F/\Z4 F:=by
 refine⟨_,dI ["stages","way","place"] U λnd _ _ _ _ _ _ _ hr=>
  (ah (aL 2 nd (i9 (dW T.len (a9 (a7 0) ag)) ae))
  (ak (aJ (aR Iy hr (a9 (ao (a7 0) (jF ae)) (a9 (a7 2) (a9 (cS (zj (gm (a9 (d6 Z1.mg Z1.tup) ag)) (cW (a7 2) ae))) (a9 (a7 1) ag) (hs:=bF))) (hs:=b9)))))),?_⟩
 intro b n m Ls rows way k8 hb hl hn hR Hc oG He hsz;have lo:=sk dX Ls;have al:=Dl dX hl hn;have er:∀ρ:ax,(L3.f2 kU (aH 2) (fC (.int 1))) ρ=some (.int ((n+1:Nat):Int))->ua (oJ (aO (fC (.tuple [.int 0,.int 1])) bS)) (L3.f2 kU (aH 2) (fC (.int 1))) ρ=some ((List.replicate (n+1) (0:Rat)).map qD):=λρ h=>FV h (by omega);have e1:=hT b 0 m n rows (List.replicate (n+1) 0) way k8 hb hR (by rw[length_replicate];omega) oG (by rw[length_replicate];omega) (by omega) (AU _) (by omega);obtain⟨e1,e2⟩:=e1;refine⟨?_,e2⟩;refine cJ ?_;simp!;have hp:((Ls.length:Nat):Int)-1=(n:Int):=by omega
 rw[aU (aj:=[~~~.list (Ls.map dX),~~~.int way,~~~.int (n:Int)]) (by simp![lo,cM,hp])];have UI:=er (bE [~~~.list (Ls.map dX),~~~.int way,~~~.int (n:Int)]) rfl;clear er;generalize (List.replicate (n+1) (0:Rat)).map qD=zs at *;generalize ua (oJ (aO (fC (.tuple [.int 0,.int 1])) bS)) (L3.f2 kU (aH 2) (fC (.int 1)))=gr at *;simp only[bE,map_cons,map_nil]at UI;dsimp![al,UI,e1];rfl
variable {Fe:List Dat->Option Dat}
theorem NG(T:TX P K mg)(wV:Dn P w K mg base 46 "end_of" ["stages","way"] 2 Fe)(U:FnAt K mg "upper_end" (top 24) ["stages"]):
  ∃F,Dn P w K mg base 47 "upper_end" ["stages"] 1 F/\∀s d,Fe [s,.int 1]=some d->F [s]=some d:=by
 refine⟨_,dI ["stages"] U λnd _ _ _ _ _ _ _ hr=>
  (ak (aJ (aR wV hr (a9 (a7 0) (a9 ae ag))))),?_⟩
 intro s d h;simp![h]
theorem Rg(T:TX P K mg)(wV:Dn P w K mg base 46 "end_of" ["stages","way"] 2 Fe)(U:FnAt K mg "opposite_end" (top 25) ["stages"]):
  ∃F,Dn P w K mg base 47 "opposite_end" ["stages"] 1 F/\∀s d,Fe [s,.int (-1)]=some d->F [s]=some d:=by
 refine⟨_,dI ["stages"] U λnd _ _ _ _ _ _ _ hr=>
  (ak (aJ (aR wV hr (a9 (a7 0) (a9 (jF ae) ag (hs:=vP)))))),?_⟩
 intro s d h;simp![h]
def pX:Option (List Rat)->Dat
 |none=>.none
 |some ws=>.list (ws.map qD)
theorem Sk(l:List Int)(h:j+2<=l.length):xh (fu l) (some ((j:Int)+2)) none=some (fu (l.drop (j+2))):=by
 have:=Oz l (j:=j+1) h;rw[show((j+1:Nat):Int)+1=(j:Int)+2 by omega]at this;exact this
variable {way:Int}
theorem Oc(k8:way=1\/way=-1)(h:z.natAbs<2^b):(way*z).natAbs<2^b:=by
 rcases k8 with e|e
 ·rw[e,one_mul];exact h
 ·rw[e,Int.neg_mul,one_mul,natAbs_neg];exact h
variable {rows:List FM.Row}
theorem AL(k8:way=1\/way=-1)(hR:lV m b rows){t:FM.fQ}(h:FM.endOf n rows way=some t):SR b t.2.1/\∀w∈t.2.2,SR b w:=by
 obtain⟨⟨r,hr,hc,k1,k2,k3⟩,_⟩:=(FM.mD rows n (List.replicate (n+1) 0) way).some t h;have A6:way*FM.ent r n≠0:=by rcases hc with hc|⟨hc,_⟩<;>omega
 have hb:=Oc k8 (dR (j:=n) (hR.bd r hr));have e:FM.ma r (List.replicate (n+1) 0)=((FM.ent r (n+1):Int):Rat):=FM.xy;rw[k2,k3];unfold FM.ef;rw[e];refine⟨mm A6 (dR (hR.bd r hr)) hb,λw hw=>?_⟩;unfold FM.o8 at hw;obtain⟨z,hz,rfl⟩:=mem_map.mp hw;exact mm A6 (hR.bd r hr z (List.mem_of_mem_drop hz)) hb
abbrev Vi (F:List Dat->Option Dat):Prop:=∀(n:Nat) (k:FM.Kn) (b:Rat),n<=4000000->SR n b->F [.str (cB k),qD b]=some (.bool (FM.cX k b))
def Cm (n:Nat) (r:FM.Row):List Rat:=(r.2.drop (n+2)).map fun(w:Int)=>(((if r.1=.eq/\0<FM.ent r (n+1)then -1 else 1:Int)*w:Int):Rat)
abbrev V9 (F:List Dat->Option Dat):Prop:=∀(b n m:Nat) (Ls:List (List FM.Row)) (rows:List FM.Row),1<=b->Ls.length=n+1->Ls[n]?=some rows->lV m b rows->n+2<=m->m<=900->b<=4000000->F [.list (Ls.map dX)]=some (pX (FM.gX n rows))
theorem NL(T:TX P K mg){Fi:List Dat->Option Dat}(rL:Dn P w K mg base 44 "is_never" ["kind","bound"] 2 Fi)(hI:Vi Fi)(U:FnAt K mg "never_by_a_row" (top 27) ["stages"]):
  ∃F,Dn P w K mg base 45 "never_by_a_row" ["stages"] 1 F/\V9 F:=by
 refine⟨_,dI ["stages","place","row","bound","way"] U λnd _ _ _ _ _ _ _ hr=>
  (ah (aL 1 nd (i9 (dW T.len (a9 (a7 0) ag)) ae))
  (ah (gR PassesOwn.never rfl (ao (a7 0) (jF ae)) (aA 2 nd)
  (ah (aL 3 nd (ao (ao (a7 2) ae) (cW (a7 1) ae)))
  (ak (bD (fD (kI (cQ hr (ao (ao (a7 2) ae) (a7 1)) ae) (jE (fo (aR rL hr (a9 (ao (a7 2) ae) (a9 (c9 (k:=0) (a9 (a7 3) (a9 ae ag))) ag (hs:=gP)) (hs:=b9))))))) (ah (aL 4 nd (fw (fD (kI (cQ hr (ao (a7 2) ae) cc) (jE (rW (a7 3) ae)))) (jF ae) ae))
  (ak (aJ (cS (iG rfl (cY (tn:=["weight"]) (fv:=["way"]) (js:=[4]) rfl (by decide +kernel) (by decide +kernel) rfl (by decide +kernel) (by decide +kernel) rfl
   (λx hx=>by((have dF:x="way":=(by simpa using hx));(rcases dF with rfl<;>exact⟨_,rfl⟩)))
   (λp hp=>by((have cV:p=(("way" : Str),(4:Nat)):=(by simpa using hp));(rcases cV with rfl<;>exact⟨rfl,.inr (.inl rfl),.inl rfl,λz=>by cases z⟩)))) (fY (ao (a7 2) ae) (gK (cW (a7 1) ae)) gL) (λ_ _ _ _=>(aA 0 (show(["weight","way"]:List Str).Nodup by decide +kernel))) (λ_ _ _ _=>bV) (λ_ _ _ _=>(c9 (k:=0) (a9 (bQ (a7 1) (a7 0)) (a9 ae ag) (hs:=bF)))) (cD rfl)))))) ba))))
  (ak (aJ bU)))),?_⟩
 intro b n m Ls rows hb hl hn hR Hc oG CH;have z2:2<=sizeLine:=sz (by decide);have lo:=sk dX Ls;have al:=Dl dX hl hn;have hp:((Ls.length:Nat):Int)-1=(n:Int):=by omega
 refine cJ ?_;simp!;rw[aU (aj:=[~~~.list (Ls.map dX),~~~.int (n:Int),none,none,none]) (by simp![lo,cM,hp])];refine(xK (l:=rows) aI (λΓ=>∃x2 x3 x4,Γ=[~~~.list (Ls.map dX),~~~.int (n:Int),x2,x3,x4]) (λr=>decide (FM.ent r n=0)&&FM.cX r.1 (FM.ent r (n+1):Rat)) (λr=>.list ((Cm n r).map qD)) (d:=dX rows) (fl:=λo=>.rt (pX (o.map (Cm n)))) (by dsimp![al]) rfl ⟨none,none,none,rfl⟩ ?_ (λ_=>rfl) ?_)
 ·rintro r hr Γ ⟨x2,x3,x4,rfl⟩;refine⟨[(2,aI r)],rfl,?_⟩;dsimp!;have a0:bf (fu r.2) (.int (n:Int))=some (.int (FM.ent r n)):=gG (by rw[hR.len r hr];omega);have a1:bf (fu r.2) (.int ((n:Int)+1))=some (.int (FM.ent r (n+1))):=gG (j:=n+1) (by rw[hR.len r hr];omega);have hN:Fi [.str (cB r.1),.tuple [.int (FM.ent r (n+1)),.int 1]]=some (.bool (FM.cX r.1 (FM.ent r (n+1):Rat))):=hI b r.1 _ CH (qq hb (dR (hR.bd r hr)));rw[aU (aj:=[~~~.list (Ls.map dX),~~~.int (n:Int),~~~(aI r),~~~.int (FM.ent r (n+1)),x4]) (by dsimp![iw,bX,a1])];by_cases c1:FM.ent r n=0
  ·cases c2:FM.cX r.1 (FM.ent r (n+1):Rat)with
   |false=>
    rw[c2]at hN;rw[if_neg (by rw[Bool.and_false];exact Bool.false_ne_true)];refine⟨[~~~.list (Ls.map dX),~~~.int (n:Int),~~~(aI r),~~~.int (FM.ent r (n+1)),x4],?_,_,_,_,rfl⟩;dsimp![kr,iw,a0,cG,eq_true c1,hN,z2]
   |true=>
    rw[c2]at hN;rw[if_pos (by rw[decide_eq_true c1];rfl)];rw[p4 (by dsimp![kr,iw,a0,cG,eq_true c1,hN,z2])];have es:=Sk r.2 (j:=n) (by rw[hR.len r hr];omega);have zd:(r.2.drop (n+2)).length<sizeLine:=by rw[length_drop,hR.len r hr];exact lt_of_lt_of_le (show m-(n+2)<1000 by omega) (sz (by decide))
    have fin:∀way:Int,(way=1\/way=-1)->bT (aName 0) fK (kR (aO (L3.f2 iM (aH 1) (aH 0)) (aO (fC (.int 1)) bS))) [none,some (.int way)] ((r.2.drop (n+2)).map .int)=some (((r.2.drop (n+2)).map fun(w:Int)=>((way*w:Int):Rat)).map qD):=by
     intro way k8;refine fz _ _ (by rw[length_map,length_map,length_map]) λi d o h1 h2=>?_;rw[getElem?_map]at h1 h2;rw[getElem?_map]at h2;cases hz:(r.2.drop (n+2))[i]? with
     |none=>rw[hz]at h1;cases h1
     |some z=>
      rw[hz]at h1 h2;cases h1;cases h2;refine⟨[(0,.int z)],rfl,?_⟩;have em:iM (.int way) (.int z)=some (.int (way*z)):=mulL _ (by rcases k8 with e|e<;>(rw[e];decide)) (by rcases k8 with e|e<;>(rw[e];decide));have eq:qD ((way*z:Int):Rat)=.tuple [.int (way*z),.int 1]:=qI _;simp![em,eq,z2]
    by_cases c3:r.1=.eq/\0<FM.ent r (n+1)
    ·have k1:=(iy r.1).mpr c3.1;rw[aU (aj:=[~~~.list (Ls.map dX),~~~.int (n:Int),~~~(aI r),~~~.int (FM.ent r (n+1)),~~~.int (-1)]) (by dsimp![kr,cU,eq_true k1,ib,eq_true c3.2])];have ew:Cm n r=(r.2.drop (n+2)).map fun(w:Int)=>(((-1:Int)*w:Int):Rat):=by unfold Cm;rw[if_pos c3]
     rw[ew];have ec:=fin (-1) (.inr rfl);dsimp![iw,lH,jV,jW,rA,bX,es,length_map,zd,ec]
    ·rw[aU (aj:=[~~~.list (Ls.map dX),~~~.int (n:Int),~~~(aI r),~~~.int (FM.ent r (n+1)),~~~.int 1]) (by
      by_cases c4:r.1=.eq
      ·have k1:=(iy r.1).mpr c4;have c5:¬0<FM.ent r (n+1):=λz=>c3 ⟨c4,z⟩;dsimp![kr,cU,eq_true k1,ib,eq_false c5]
      ·have k1:¬cB r.1="=":=λz=>c4 ((iy r.1).mp z);dsimp![kr,cU,eq_false k1])]
     have ew:Cm n r=(r.2.drop (n+2)).map fun(w:Int)=>(((1:Int)*w:Int):Rat):=by unfold Cm;rw[if_neg c3]
     rw[ew];have ec:=fin 1 (.inl rfl);dsimp![iw,lH,jV,jW,rA,bX,es,length_map,zd,ec]
  ·rw[if_neg (by rw[decide_eq_false c1];exact Bool.false_ne_true)];refine⟨[~~~.list (Ls.map dX),~~~.int (n:Int),~~~(aI r),~~~.int (FM.ent r (n+1)),x4],?_,_,_,_,rfl⟩;dsimp![kr,iw,a0,cG,eq_false c1]
 ·rintro aj ⟨x2,x3,x4,rfl⟩;simp![pX,map_none]
theorem Ku:∀(xs ys:List Rat),dP (xs.map qD) (ys.map qD)=(xs.zip ys).map λz=>Dat.tuple [qD z.1,qD z.2]
 |[],ys=>by simp[dP]
 |x::xs,[]=>by simp[dP]
 |x::xs,y::ys=>by simp only[map_cons,dP,zip_cons_cons,Ku xs ys]
abbrev V8 (F:List Dat->Option Dat):Prop:=∀(b n m:Nat) (Ls:List (List FM.Row)) (rows:List FM.Row),1<=b->Ls.length=n+1->Ls[n]?=some rows->lV m b rows->n+2<=m->m<=900->n<=90->b<=1900000->F [.list (Ls.map dX)]=some (pX (FM.jJ n rows))
abbrev Dp (way:Int) (F:List Dat->Option Dat):Prop:=∀(b n m:Nat) (Ls:List (List FM.Row)) (rows:List FM.Row),1<=b->Ls.length=n+1->Ls[n]?=some rows->lV m b rows->n+1<m->m<=900->n<=90->b<=1900000->F [.list (Ls.map dX)]=some (dz (FM.endOf n rows way))
theorem BN(hl:∀r∈rows,r.2.length=m){t:FM.fQ}(h:FM.endOf n rows way=some t):t.2.2.length=m-(n+2):=by
 obtain⟨⟨r,hr,hc,k1,k2,k3⟩,_⟩:=(FM.mD rows n (List.replicate (n+1) 0) way).some t h;rw[k3];unfold FM.o8;rw[length_map,length_drop,hl r hr,length_replicate]
theorem K2(T:TX P K mg){Fu Fo Fi:List Dat->Option Dat}(pS:Dn P w K mg base 47 "upper_end" ["stages"] 1 Fu)(hU:Dp 1 Fu)(lL:Dn P w K mg base 47 "opposite_end" ["stages"] 1 Fo)(hO:Dp (-1) Fo)(rL:Dn P w K mg base 47 "is_never" ["kind","bound"] 2 Fi)(hI:Vi Fi)(M7:Dn P w K mg base 47 "plus" ["a","b"] 2 iW)(U:FnAt K mg "never_by_ends" (top 28) ["stages"]):
  ∃F,Dn P w K mg base 48 "never_by_ends" ["stages"] 1 F/\V8 F:=by
 refine⟨_,dI ["stages","top","bottom","kind"] U λnd _ _ _ _ _ _ _ hr=>
  (ah (aL 1 nd (aR pS hr (a9 (a7 0) ag)))
  (ah (aL 2 nd (aR lL hr (a9 (a7 0) ag)))
  (ah (bD (fD (gC (fE (a7 1) bU) (gS (fE (a7 2) bU)))) (ak (aJ bU)) ba)
  (ah (aL 3 nd (fw (C7 cc (c9 (k:=0) (a9 (ao (a7 1) ae) (a9 (ao (a7 2) ae) ag (hs:=b9)) (hs:=b9)))) cc cc))
  (ah (bD (fo (aR rL hr (a9 (a7 3) (a9 (aR M7 hr (a9 (ao (a7 1) ae) (a9 (ao (a7 2) ae) ag (hs:=b9)) (hs:=b9))) ag (hs:=aV))))) (ak (aJ (cS (gT rfl (iS (N':=["a","b"])) (kH T.zip (a9 (ao (a7 1) ae) (a9 (ao (a7 2) ae) ag (hs:=b9)) (hs:=b9))) (λ_ _ _ _=>(fm (n:=2) rfl (aX (aA 0 (show(["a","b"]:List Str).Nodup by decide +kernel)) (aX (aA 1 (show(["a","b"]:List Str).Nodup by decide +kernel)) cK)))) (λ_ _ _ _=>bV) (λ_ _ _ _=>(aR M7 hr (a9 (a7 0) (a9 (a7 1) ag)))) (qm rfl rfl))))) ba)
  (ak (aJ bU))))))),?_⟩
 intro b n m Ls rows hb hl hn hR Hc oG He hsz;have z2:2<=sizeLine:=sz (by decide);have eu:=hU b n m Ls rows hb hl hn hR (by omega) oG He hsz;have eo:=hO b n m Ls rows hb hl hn hR (by omega) oG He hsz;refine cJ ?_;simp!;rw[aU (aj:=[~~~.list (Ls.map dX),~~~(dz (FM.endOf n rows 1)),none,none]) (by dsimp![eu])];rw[aU (aj:=[~~~.list (Ls.map dX),~~~(dz (FM.endOf n rows 1)),~~~(dz (FM.endOf n rows (-1))),none]) (by dsimp![eo])];have nE:FM.jJ n rows=(match FM.endOf n rows 1,FM.endOf n rows (-1)with
  |some t,some b=>if FM.cX (if t.1=true\/b.1=true then .lt else .le) (t.2.1+b.2.1)=true then some (zipWith (λx y=>x+y) t.2.2 b.2.2)else none
  |_,_=>none):=rfl
 rw[nE];cases ht:FM.endOf n rows 1 with
 |none=>
  have e0:dz none=.none:=rfl;rw[e0];dsimp![uS,pX]
 |some t=>
  cases ho:FM.endOf n rows (-1)with
  |none=>
   have e0:dz none=.none:=rfl;rw[e0];dsimp![uS,ny,pX]
  |some o=>
   obtain⟨s1,s2⟩:=AL (.inl rfl) hR ht;obtain⟨s3,s4⟩:=AL (.inr rfl) hR ho;have w1:=BN hR.len ht;have w2:=BN hR.len ho;have CH:b+b+1<=4000000:=by omega
   have t0:bf (dz (some t)) (.int 0)=some (.str (k0 t.1)):=rfl;have t1:bf (dz (some t)) (.int 1)=some (qD t.2.1):=rfl;have t2:bf (dz (some t)) (.int 2)=some (.list (t.2.2.map qD)):=rfl;have o0:bf (dz (some o)) (.int 0)=some (.str (k0 o.1)):=rfl;have o1:bf (dz (some o)) (.int 1)=some (qD o.2.1):=rfl;have o2:bf (dz (some o)) (.int 2)=some (.list (o.2.2.map qD)):=rfl;have ei:inD (.str "<") (.tuple [.str (k0 t.1),.str (k0 o.1)])=some (.bool (decide (t.1=true\/o.1=true))):=by
    cases t.1<;>cases o.1<;>rfl
   have ep:=oQ s1 s3 (by omega) (by omega);have eN:=hI (b+b+1) (if t.1=true\/o.1=true then .lt else .le) (t.2.1+o.2.1) CH (s1.add s3);show _=some (Fl.rt (pX (if FM.cX (if t.1=true\/o.1=true then .lt else .le) (t.2.1+o.2.1)=true then some (zipWith (λx y=>x+y) t.2.2 o.2.2)else none)));rw[aU (aj:=[~~~.list (Ls.map dX),~~~(dz (some t)),~~~(dz (some o)),none]) (by dsimp![ny])];rw[aU (aj:=[~~~.list (Ls.map dX),~~~(dz (some t)),~~~(dz (some o)),~~~.str (cB (if t.1=true\/o.1=true then .lt else .le))]) (by
    by_cases c:t.1=true\/o.1=true
    ·rw[decide_eq_true c]at ei;rw[if_pos c];have ks:cB .lt="<":=rfl;dsimp![t0,o0,ei,z2,ks]
    ·rw[decide_eq_false c]at ei;rw[if_neg c];have ks:cB .le="<=":=rfl;dsimp![t0,o0,ei,z2,ks])]
   generalize (if t.1=true\/o.1=true then FM.Kn.lt else .le)=kn at *;cases c2:FM.cX kn (t.2.1+o.2.1)with
   |false=>
    rw[c2]at eN;rw[if_neg Bool.false_ne_true];dsimp![t1,o1,ep,eN,pX]
   |true=>
    rw[c2]at eN;rw[if_pos rfl];have zl:(t.2.2.zip o.2.2).length<sizeLine:=by rw[length_zip,w1,w2];exact lt_of_lt_of_le (show min (m-(n+2)) (m-(n+2))<1000 by omega) (sz (by decide))
    have ec:bT (je 2 (cR (aName 0) (cR (aName 1) jf))) fK (iR 2 iW (aO (aH 0) (aO (aH 1) bS))) [none,none] ((t.2.2.zip o.2.2).map λz=>Dat.tuple [qD z.1,qD z.2])=some ((zipWith (λx y=>x+y) t.2.2 o.2.2).map qD):=by
     have es:zipWith (λx y=>x+y) t.2.2 o.2.2=(t.2.2.zip o.2.2).map λz=>z.1+z.2:=by rw[List.zip,List.map_zipWith]
     rw[es];refine fz _ _ (by rw[length_map,length_map,length_map]) λi d o' g1 g2=>?_;rw[getElem?_map]at g1 g2;rw[getElem?_map]at g2;cases hq:(t.2.2.zip o.2.2)[i]? with
     |none=>rw[hq]at g1;cases g1
     |some z=>
      rw[hq]at g1 g2;cases g1;cases g2;obtain⟨Q6,Q5⟩:=of_mem_zip (mem_of_getElem? hq);refine⟨[(0,qD z.1),(1,qD z.2)],rfl,?_⟩;have e1:=oQ (s2 z.1 Q6) (s4 z.2 Q5) (by omega) (by omega);simp![e1]
    dsimp![t1,t2,o1,o2,ep,eN,gh,Ku,length_map,zl,ec,pX]
abbrev V7 (F:List Dat->Option Dat):Prop:=∀(b n m:Nat) (Ls:List (List FM.Row)) (rows:List FM.Row),1<=b->Ls.length=n+1->Ls[n]?=some rows->lV m b rows->n+2<=m->m<=900->n<=90->b<=1900000->F [.list (Ls.map dX)]=some (pX (FM.never n rows))
variable {Fr:List Dat->Option Dat}
theorem NK(T:TX P K mg)(vG:Dn P w K mg base 48 "never_by_a_row" ["stages"] 1 Fr)(hR:V9 Fr)(wR:Dn P w K mg base 48 "never_by_ends" ["stages"] 1 Fe)(hE:V8 Fe)(U:FnAt K mg "never" (top 29) ["stages"]):
  ∃F,Dn P w K mg base 49 "never" ["stages"] 1 F/\V7 F:=by
 refine⟨_,dI ["stages","weights"] U λnd _ _ _ _ _ _ _ hr=>
  (ah (aL 1 nd (aR vG hr (a9 (a7 0) ag)))
  (ak (aJ (fw (fE (a7 1) bU) (aR wR hr (a9 (a7 0) ag)) (a7 1))))),?_⟩
 intro b n m Ls rows hb hl hn lQ Hc oG He hsz;have e1:=hR b n m Ls rows hb hl hn lQ Hc oG (by omega);have e2:=hE b n m Ls rows hb hl hn lQ Hc oG He hsz;have nE:FM.never n rows=(match FM.gX n rows with
  |some w=>some w
  |none=>FM.jJ n rows):=rfl
 rw[nE];cases hw:FM.gX n rows with
 |none=>
  rw[hw]at e1;have e0:pX none=.none:=rfl;rw[e0]at e1;simp![e1,uS,e2]
 |some ws=>
  rw[hw]at e1;have e0:pX (some ws)=.list (ws.map qD):=rfl;rw[e0]at e1;have n0:jb (.list (ws.map qD)) .none=some (.bool false):=rfl;simp![e1,n0,e0]
theorem Nu{g x:Int}(h:g∣x):(x.fdiv g).natAbs<=x.natAbs:=by
 obtain⟨c,rfl⟩:=h;by_cases g0:g=0
 ·rw[g0];simp
 ·rw[mul_comm,Int.mul_fdiv_cancel _ g0,natAbs_mul];exact Nat.le_mul_of_pos_right _ (by omega)
theorem zO{one other:List Int}{bZ more:Int}(h1:∀x∈one,x.natAbs<2^b)(h2:∀x∈other,x.natAbs<2^b)(h3:bZ.natAbs<2^b)(h4:more.natAbs<2^b):∀x∈FM.mixed one bZ other more,x.natAbs<2^(2*b+1):=by
 intro x hx;obtain⟨y,hy,rfl⟩:=mem_map.mp (show x∈(FM.fF one bZ other more).map (λx=>x.fdiv (FM.lowG (FM.fF one bZ other more):Int))from hx);refine lt_of_le_of_lt (Nu (FM.mO hy)) ?_;obtain⟨p,hp,q,hq,rfl⟩:=nX (show y∈zipWith (λa b=>bZ*a+more*b) one other from hy);rw[show 2*b=b+b by omega];exact B4 (gI h3 (h1 p hp)) (gI h4 (h2 q hq))
theorem Co{most:Nat}{aF:List Nat}(hR:lV m b rows):lV m (2*b+1) (FM.cZ aF j most rows):=by
 have up:∀{x:Int},x.natAbs<2^b->x.natAbs<2^(2*b+1):=λh=>gU h (by omega);unfold FM.cZ;split
 ·refine⟨λr hr=>?_,λr hr x hx=>?_⟩
  ·rcases FM.gW.mp hr with⟨h1,h2⟩|⟨u,hu,l,hl,pu,pl,_,e⟩
   ·exact hR.len r h1
   ·rw[e];show(FM.mixed u.2 _ l.2 _).length=_;rw[FM.nv (by rw[hR.len u hu,hR.len l hl]),hR.len u hu]
  ·rcases FM.gW.mp hr with⟨h1,h2⟩|⟨u,hu,l,hl,pu,pl,_,e⟩
   ·exact up (hR.bd r h1 x hx)
   ·rw[e]at hx;exact zO (hR.bd u hu) (hR.bd l hl) (by rw[natAbs_neg];exact dR (hR.bd l hl)) (dR (hR.bd u hu)) x hx
 ·rename_i q hq;have hm:=mem_of_find?_eq_some hq;refine⟨λr hr=>?_,λr hr x hx=>?_⟩
  ·obtain⟨s,hs,rfl⟩:=mem_map.mp hr;have hs:=(mem_filter.mp hs).1;show(FM.mixed s.2 _ q.2 _).length=_;rw[FM.nv (by rw[hR.len s hs,hR.len q hm]),hR.len s hs]
  ·obtain⟨s,hs,rfl⟩:=mem_map.mp hr;have hs:=(mem_filter.mp hs).1;exact zO (hR.bd s hs) (hR.bd q hm) (by rw[natAbs_natCast];exact dR (hR.bd q hm)) (by split<;>(try rw[natAbs_neg])<;>exact dR (hR.bd s hs)) x hx
theorem FO{M:Nat}(aF:List Nat):∀(m j most b:Nat) (rows:List FM.Row),lV M b rows->∀i,i<=m->∃rs,(FM.lY aF m j most rows)[i]?=some rs/\lV M (FM.bt b i) rs
 |0,j,most,b,rows,h,i,hi=>by
  have:i=0:=by omega
  subst this;exact⟨rows,rfl,h⟩
 |m+1,j,most,b,rows,h,0,hi=>⟨rows,rfl,h⟩
 |m+1,j,most,b,rows,h,i+1,hi=>FO aF m (j+1) _ (2*b+1) _ (Co h) i (by omega)
theorem vW(aF:List Nat):∀(m j most:Nat) (rows:List FM.Row),(FM.lY aF m j most rows).length=m+1
 |0,j,most,rows=>rfl
 |m+1,j,most,rows=>by
  show(FM.lY aF m (j+1) _ _).length+1=_;rw[vW]
variable {e:Nat}
theorem yH{k:FM.Kn}{qs:List Rat}(hq:∀q∈qs,SR c q)(hP:fg qs<2^e):∀x∈(FM.whole k qs).2,x.natAbs<2^(c+e):=by
 have hL:FM.ie qs<2^e:=by
  have:=wj qs 1 (by decide);rw[Nat.one_mul]at this;exact lt_of_le_of_lt this hP
 intro x hx;obtain⟨q,sX,rfl⟩:=mem_map.mp (show x∈qs.map (λq=>q.num*((FM.ie qs/q.den:Nat):Int))from hx);exact gI (hq q sX).ln (by rw[natAbs_natCast];exact lt_of_le_of_lt (Nat.div_le_self _ _) hL)
theorem LG{c e n k:Nat}(ka:1<=c):∀(l:List FM.Ol) (i:Nat),(∀o∈l,Be c e n o)->∀r∈FM.cC k i l,∀x∈r.2,x.natAbs<2^(c+e)
 |[],i,_,r,hr=>by simp[FM.cC]at hr
 |o::l,i,h,r,hr=>by
  rcases mem_cons.mp (show r∈FM.whole o.1 (o.2.1++[0,o.2.2]++FM.aZ k i)::FM.cC k (i+1) l from hr)with e|hr
  ·subst e;have ho:=h o mem_cons_self;refine yH (λq hq=>?_) ?_
   ·rcases mem_append.mp hq with h|h
    ·rcases mem_append.mp h with h|h
     ·exact ho.sq q h
     ·rcases mem_cons.mp h with h|h
      ·rw[h];exact mF ka
      ·rw[mem_singleton.mp h];exact ho.bd
    ·rcases oS h with e|e
     ·rw[e];exact mF ka
     ·rw[e];exact FE ka
   ·rw[j3,j3,oK (a:=FM.aZ k i) (λq hq=>by rcases oS hq with e|e<;>(rw[e];rfl)),mul_one];show fg o.2.1*(1*(o.2.2.den*1))<_;rw[Nat.one_mul,mul_one];exact ho.dn
  ·exact LG ka l (i+1) (λo ho=>h o (mem_cons_of_mem _ ho)) r hr
variable {os:List FM.Ol}
theorem AF{p:List Rat}(ka:1<=c)(lO:∀q∈p,SR c q)(Ad:fg p<2^e)(bR:∀o∈os,Be c e p.length o):lV (p.length+2+os.length) (c+e) (FM.bh p os):=by
 refine⟨(FM.tZ λo ho=>(bR o ho).len).len,λr hr=>?_⟩;unfold FM.bh at hr;rcases mem_append.mp hr with h|h
 ·exact LG ka os 0 bR r h
 ·rw[mem_singleton.mp h];refine yH (λq hq=>?_) ?_
  ·rcases mem_append.mp hq with h|h
   ·rcases mem_append.mp h with h|h
    ·obtain⟨x,hx,rfl⟩:=mem_map.mp h;exact uO (lO x hx)
    ·rcases mem_cons.mp h with h|h
     ·rw[h];exact FE ka
     ·rw[mem_singleton.mp h];exact mF ka
   ·rw[(mem_replicate.mp h).2];exact mF ka
  ·rw[j3,j3,oK (a:=List.replicate os.length 0) (λq hq=>by rw[(mem_replicate.mp hq).2];rfl),mul_one,wB];show fg p*1<_;rw[mul_one];exact Ad
theorem Nz(a b:FM.Row):eqB (aI a) (aI b)=some (decide (a=b)):=by
 have h:eqB (aI a) (aI b)=if kqdOk 9 (aI a)=true/\kqdOk 9 (aI b)=true then some (kf (aI a) (aI b))else none:=rfl;rw[h,if_pos ⟨mn (oC a.1),mn (oC b.1)⟩];congr 1
 by_cases e:a=b
 ·rw[mV (by rw[e]),decide_eq_true e]
 ·rw[oM (λz=>e (BZ z)),decide_eq_false e]
theorem N7(a b:FM.Row):ix (aI a) (aI b)=some (.bool (!decide (a=b))):=by unfold ix;rw[Nz];rfl
theorem yK{os:List FM.Ol}{n:Nat}:∀(l:List FM.Ol) (i:Nat),(∀t,t<l.length->os[i+t]?=l[t]?)->((eN i l).filter λp=>!decide (p.2.1=.eq)).map (λp=>nat (n+2+p.1))=(((range' i l.length).filter λi=>FM.jO os i).map λi=>n+2+i).map nat
 |[],i,_=>rfl
 |o::l,i,h=>by
  have ih:=yK l (i+1) (n:=n) (os:=os) λt ht=>by
   have:=h (t+1) (by rw[length_cons];omega);rw[show i+1+t=i+(t+1) by omega];exact this
  have h0:=h 0 (by rw[length_cons];omega);have hk:FM.knd os i=o.1:=by
   unfold FM.knd;rw[getD_eq_getElem?_getD,show i=i+0 by omega,h0];rfl
  have hj:FM.jO os i=!decide (o.1=.eq):=by unfold FM.jO;rw[hk,decide_not]
  rw[length_cons,List.range'_succ];show(((i,o)::eN (i+1) l).filter _).map _=_;rw[filter_cons,filter_cons];show(if(!decide (o.1=.eq))=true then _ else _:List (Nat×FM.Ol)).map _=_;rw[hj];by_cases c:(!decide (o.1=.eq))=true
  ·rw[if_pos c,if_pos c,map_cons,map_cons,map_cons,ih]
  ·rw[if_neg c,if_neg c,ih]
abbrev UW (F:List Dat->Option Dat):Prop:=∀(c e:Nat) (p:List Rat) (os:List FM.Ol),1<=c->c<=3000000->e<=4000000->p.length<=50->os.length<=100->(∀q∈p,SR c q)->fg p<2^e->(∀o∈os,Be c e p.length o)->FM.bt (c+e) p.length<=4400000->FM.cb (os.length+1) p.length<sizeLine->F [.tuple (p.map qD),.list (os.map cm)]=some (.list ((FM.cH p os).map dX))
theorem JX(T:TX P K mg){Ff Fp:List Dat->Option Dat}(BI:Dn P w K mg base 45 "first_rows" ["parts","others"] 2 Ff)(hF:Vj Ff)(F4:Dn P w K mg base 45 "equal_row" ["rows","place"] 2 Fe)(hE:∀(rows:List FM.Row) (j m:Nat),(∀r∈rows,r.2.length=m)->j<m->Fe [.list (rows.map aI),.int (j:Int)]=some (tK (FM.eK j rows)))(O5:Dn P w K mg base 45 "paired" ["rows","place","weighed","most"] 4 Fp)(hP:V0 Fp)(Kq:Dn P w K mg base 45 "without" ["row","equal","place"] 3 Fw)(hW:UR Fw)(U:FnAt K mg "stages_of" (top 20) ["parts","others"]):
  ∃F,Dn P w K mg base 46 "stages_of" ["parts","others"] 2 F/\UW F:=by
 refine⟨_,dI ["parts","others","rows","ahead","weighed","most","stages","place","equal"] U λnd _ _ _ _ _ _ _ hr=>
  (ah (aL 2 nd (aR BI hr (a9 (a7 0) (a9 (a7 1) ag))))
  (ah (aL 3 nd (cW (dW T.len (a9 (a7 0) ag)) ae))
  (ah (p7 4 nd rfl (cY (tn:=["place","other"]) (fv:=["ahead"]) (js:=[3]) rfl (by decide +kernel) (by decide +kernel) rfl (by decide +kernel) (by decide +kernel) rfl
   (λx hx=>by((have dF:x="ahead":=(by simpa using hx));(rcases dF with rfl<;>exact⟨_,rfl⟩)))
   (λp hp=>by((have cV:p=(("ahead" : Str),(3:Nat)):=(by simpa using hp));(rcases cV with rfl<;>exact⟨rfl,.inr (.inl rfl),.inl rfl,λz=>by cases z⟩)))) (nk T.enumerate (a9 (a7 1) ag)) (λ_ _ _ _=>(fm (n:=2) rfl (aX (aA 0 (show(["place","other","ahead"]:List Str).Nodup by decide +kernel)) (aX (aA 1 (show(["place","other","ahead"]:List Str).Nodup by decide +kernel)) cK)))) (λ_ _ _ _=>(lu (fS hr (ao (a7 1) ae) cc))) (λ_ _ _ _=>(cW (a7 2) (a7 0))) (qm rfl rfl))
  (ah (aL 5 nd ae)
  (ah (ju 6 nd (gm ag))
  (ah (p9 PassesOwn.never rfl T.range (a9 (dW T.len (a9 (a7 0) ag)) ag (hs:=aV)) (aA 7 nd) (ah (jj 6 (a7 2))
  (ah (aL 8 nd (aR F4 hr (a9 (a7 2) (a9 (a7 7) ag))))
  (ak (bD (fE (a7 8) bU) (ah (aL 5 nd (cW (a7 5) ae))
  (ak (aL 2 nd (aR O5 hr (a9 (a7 2) (a9 (a7 7) (a9 (a7 4) (a9 (a7 5) ag)))))))) (ak (jC 2 nd rfl (cY (tn:=["row"]) (fv:=["place","equal"]) (js:=[7,8]) rfl (by decide +kernel) (by decide +kernel) rfl (by decide +kernel) (by decide +kernel) rfl
   (λx hx=>by((have dF:x="place"\/x="equal":=(by simpa using hx));(rcases dF with rfl|rfl<;>exact⟨_,rfl⟩)))
   (λp hp=>by((have cV:p=(("place" : Str),(7:Nat))\/p=(("equal" : Str),(8:Nat)):=(by simpa using hp));(rcases cV with rfl|rfl<;>exact⟨rfl,.inr (.inl rfl),.inl rfl,λz=>by cases z⟩)))) (a7 2) (λ_ _ _ _=>(aA 0 (show(["row","place","equal"]:List Str).Nodup by decide +kernel))) (λ_ _ _ _=>(lu (fS hr (a7 0) (a7 2)))) (λ_ _ _ _=>(aR Kq hr (a9 (a7 0) (a9 (a7 2) (a9 (a7 1) ag))))) (cD rfl))))))))
  (ah (jj 6 (a7 2))
  (ak (aJ (a7 6)))))))))),?_⟩
 intro c e p os ka hc he hp pZ lO Ad bR xH Qt;have z0:0<=sizeLine:=zero_le _;have hlen:∀o∈os,o.2.1.length=p.length:=λo ho=>(bR o ho).len;have lp:j9 [.tuple (p.map qD)]=some (.int p.length):=by show some (Dat.int ((p.map qD).length:Nat))=_;rw[length_map]
 have eF:=hF c e p os ka hc he (by omega) pZ lO Ad bR;generalize GZ:FM.cE p.length os.length (FM.jO os)=wd;have CB:wd.length<=900:=by
  rw[<- GZ];unfold FM.cE;rw[length_map];have:=length_filter_le (λi=>FM.jO os i) (List.range os.length);rw[length_range]at this;omega
 have Q9:∀q∈wd,q<p.length+2+os.length:=λq hq=>by
  rw[<- GZ]at hq;unfold FM.cE at hq;obtain⟨i,hi,rfl⟩:=mem_map.mp hq;have:=mem_range.mp (mem_filter.mp hi).1;omega
 refine cJ ?_;simp!;rw[aU (aj:=[~~~.tuple (p.map qD),~~~.list (os.map cm),~~~.list ((FM.bh p os).map aI),none,none,none,none,none,none]) (by simp![eF])];rw[aU (aj:=[~~~.tuple (p.map qD),~~~.list (os.map cm),~~~.list ((FM.bh p os).map aI),~~~.int ((p.length:Int)+2),none,none,none,none,none]) (by simp![lp,bX])];have zn:os.length<sizeLine:=lt_of_lt_of_le (show os.length<1000 by omega) (sz (by decide));have Ac:oF (aO (aH 1) bS) (bG [~~~.tuple (p.map qD),~~~.list (os.map cm),~~~.list ((FM.bh p os).map aI),~~~.int ((p.length:Int)+2),none,none,none,none,none])=some ((eN 0 os).map CZ):=by
  rw[<- Er];rfl
 have ec:bT (je 2 (cR (aName 0) (cR (aName 1) jf))) (bY (L3.f2 ix (L3.f2 bf (aH 1) (fC (.int 0))) (fC (.str "=")))) (L3.f2 kU (aH 2) (aH 0)) [none,none,some (.int ((p.length:Int)+2))] ((eN 0 os).map CZ)=some (wd.map nat):=by
  rw[j4 CZ (λq=>nat (p.length+2+q.1)) (λq=>!decide (q.2.1=.eq)) (eN 0 os) (λq hq=>?_)]
  ·rw[yK os 0 (λt _=>by rw[zero_add]),<- GZ];unfold FM.cE;rw[List.range_eq_range']
  ·refine⟨[(0,.int (q.1:Int)),(1,cm q.2)],rfl,?_,λ_=>?_⟩
   ·have e0:bf (cm q.2) (.int 0)=some (.str (cB q.2.1)):=rfl;by_cases ck:q.2.1=.eq
    ·have k1:=(iy q.2.1).mpr ck;rw[decide_eq_true ck];dsimp![e0,tM,eq_true k1]
    ·have k1:¬cB q.2.1="=":=λz=>ck ((iy q.2.1).mp z);rw[decide_eq_false ck];dsimp![e0,tM,eq_false k1]
   ·have en:nat (p.length+2+q.1)=.int ((p.length:Int)+2+(q.1:Int)):=rfl;rw[en];simp![bX]
 rw[aU (aj:=[~~~.tuple (p.map qD),~~~.list (os.map cm),~~~.list ((FM.bh p os).map aI),~~~.int ((p.length:Int)+2),~~~.list (wd.map nat),none,none,none,none]) (BY (AW Ac (by rw[length_map,AM];exact zn) ec))];rw[aU (aj:=[~~~.tuple (p.map qD),~~~.list (os.map cm),~~~.list ((FM.bh p os).map aI),~~~.int ((p.length:Int)+2),~~~.list (wd.map nat),~~~.int 1,none,none,none]) (by simp![])];rw[aU (aj:=[~~~.tuple (p.map qD),~~~.list (os.map cm),~~~.list ((FM.bh p os).map aI),~~~.int ((p.length:Int)+2),~~~.list (wd.map nat),~~~.int 1,some (.own ([])),none,none]) (by simp![z0])];have Lg:iF [.int ((p.length:Nat):Int)]=some ((range' 0 p.length).map nat):=by
  rw[nR p.length (by omega)];unfold jt;rw[List.range_eq_range'];congr 1
  exact List.map_congr_left λi _=>by rw[Int.zero_add]
 refine jR (I:=_) (Hs (as:=[.int ((p.length:Nat):Int)]) (l:=range' 0 p.length) (s:=((FM.bh p os,1,[]):FM.Nx)) nat (fun(s:FM.Nx) Γ=>∃x7 x8,Γ=[~~~.tuple (p.map qD),~~~.list (os.map cm),~~~.list (s.1.map aI),~~~.int ((p.length:Int)+2),~~~.list (wd.map nat),~~~.int (s.2.1:Int),some (.own (s.2.2.map dX)),x7,x8])
  (λs l=>∃(j m b r:Nat) (E:List Nat) (B:Nat->Nat->Rat) (β:Nat->Rat),l=range' j m/\j+m=p.length/\s.2.1=E.length+1/\FM.Rs p.length os.length s.1/\FM.Sg p.length os.length j (FM.jO os) (FM.sO os) E B β (s.1.map (FM.aG p.length))/\lV (p.length+2+os.length) b s.1/\s.1.length<=r/\FM.bt b m<=4400000/\FM.cb r m<sizeLine/\s.2.2.length<=j)
  (FM.eA wd) (by simp![lp]) Lg ⟨0,p.length,c+e,os.length+1,[],_,_,rfl,by omega,rfl,FM.tZ hlen,FM.AE hlen,AF ka lO Ad bR,by
   unfold FM.bh;rw[length_append,AG];exact le_refl _,xH,Qt,le_refl _⟩ ⟨none,none,rfl⟩ ?_) ?_
 ·rintro⟨rows,most,acc⟩ j0 l Γ ⟨j,m,b,r,E,B,β,hl,hjm,Li,CI,Lv,lQ,A3,CH,Uq,Ek⟩ ⟨x7,x8,rfl⟩;cases m with
  |zero=>cases hl
  |succ m=>
   rw[List.range'_succ]at hl;obtain⟨rfl,rfl⟩:=List.cons.inj hl;dsimp only at Li CI Lv lQ A3 Ek;have U9:=FM.Cn CI Lv (by omega) Li;rw[GZ]at U9;obtain⟨Wi,⟨E',B',F7,Wh,CD⟩,_⟩:=U9;have hQ:∃(j m2 b r:Nat) (E:List Nat) (B:Nat->Nat->Rat) (β:Nat->Rat),range' (j0+1) m=range' j m2/\j+m2=p.length/\(FM.eA wd (rows,most,acc) j0).2.1=E.length+1/\FM.Rs p.length os.length (FM.eA wd (rows,most,acc) j0).1/\FM.Sg p.length os.length j (FM.jO os) (FM.sO os) E B β ((FM.eA wd (rows,most,acc) j0).1.map (FM.aG p.length))/\lV (p.length+2+os.length) b (FM.eA wd (rows,most,acc) j0).1/\(FM.eA wd (rows,most,acc) j0).1.length<=r/\FM.bt b m2<=4400000/\FM.cb r m2<sizeLine/\(FM.eA wd (rows,most,acc) j0).2.2.length<=j:=by
    refine⟨j0+1,m,2*b+1,r+r*r/4,E',B',F7,rfl,by omega,CD,Wi,Wh,Co lQ,?_,CH,Uq,?_⟩
    ·exact le_trans (FM.Jt rows j0 most wd) (add_le_add A3 (Nat.div_le_div_right (mul_le_mul A3 A3)))
    ·show(acc++[rows]).length<=_;rw[length_append];exact Nat.add_le_add_right Ek 1
   have Lr:b<=4400000:=le_trans (le_trans (show b<=2*b+1 by omega) (FM.EA m (2*b+1))) CH;have Qh:r+r*r/4<sizeLine:=lt_of_le_of_lt (FM.LP m _) Uq;have zr:rows.length<sizeLine:=by omega
   have za:acc.length<sizeLine:=lt_of_lt_of_le (show acc.length<1000 by omega) (sz (by decide));refine⟨[(7,nat j0)],rfl,?_⟩;dsimp!;rw[aU (aj:=[~~~.tuple (p.map qD),~~~.list (os.map cm),~~~.list (rows.map aI),~~~.int ((p.length:Int)+2),~~~.list (wd.map nat),~~~.int (most:Int),some (.own (acc.map dX++[dX rows])),~~~(nat j0),x8]) (by simp![length_map,za])];have eE:=hE rows j0 (p.length+2+os.length) lQ.len (by omega);rw[aU (aj:=[~~~.tuple (p.map qD),~~~.list (os.map cm),~~~.list (rows.map aI),~~~.int ((p.length:Int)+2),~~~.list (wd.map nat),~~~.int (most:Int),some (.own (acc.map dX++[dX rows])),~~~(nat j0),~~~(tK (FM.eK j0 rows))]) (by simp![eE])];cases hq:FM.eK j0 rows with
   |none=>
    have e0:tK none=.none:=rfl;have en:FM.eA wd (rows,most,acc) j0=(FM.paired j0 wd (most+1) rows,most+1,acc++[rows]):=by
     unfold FM.eA FM.cZ FM.iL;dsimp only;rw[hq]
    have eP:=hP b (p.length+2+os.length) j0 (most+1) wd rows Lr (by omega) (by omega) lQ CB Q9 (FM.MY CI Lv hq) (lt_of_le_of_lt (le_trans (FM.zE rows j0) (add_le_add A3 (Nat.div_le_div_right (mul_le_mul A3 A3)))) Qh);refine⟨[~~~.tuple (p.map qD),~~~.list (os.map cm),~~~.list ((FM.paired j0 wd (most+1) rows).map aI),~~~.int ((p.length:Int)+2),~~~.list (wd.map nat),~~~.int ((most+1:Nat):Int),some (.own (acc.map dX++[dX rows])),~~~(nat j0),~~~.none],?_,⟨_,_,by rw[en,map_append];rfl⟩,hQ⟩;rw[e0,p4 (by dsimp![uS])];rw[aU (aj:=[~~~.tuple (p.map qD),~~~.list (os.map cm),~~~.list (rows.map aI),~~~.int ((p.length:Int)+2),~~~.list (wd.map nat),~~~.int ((most+1:Nat):Int),some (.own (acc.map dX++[dX rows])),~~~(nat j0),~~~.none]) (by simp![bX];rfl)];simp![eP]
   |some q=>
    have sX:=mem_of_find?_eq_some hq;have Xl:=find?_some hq;have Qk:q.1=.eq/\FM.ent q j0≠0:=by simpa using Xl
    have e0:tK (some q)=aI q:=rfl;have en:FM.eA wd (rows,most,acc) j0=((rows.filter λr=>decide (r≠q)).map (FM.wo q j0),most,acc++[rows]):=by
     unfold FM.eA FM.cZ FM.iL;dsimp only;rw[hq]
    have ec:bT (aName 0) (bY (L3.f2 ix (aH 0) (aH 2))) (iR 3 Fw (aO (aH 0) (aO (aH 2) (aO (aH 1) bS)))) [none,some (nat j0),some (aI q)] (rows.map aI)=some (((rows.filter λr=>decide (r≠q)).map (FM.wo q j0)).map aI):=by
     rw[j4 aI (λr=>aI (FM.wo q j0 r)) (λr=>decide (r≠q)) rows (λr hr=>?_)]
     ·rw[map_map];rfl
     ·refine⟨[(0,aI r)],rfl,?_,λhd=>?_⟩
      ·have er:(!decide (r=q))=decide (r≠q):=(decide_not).symm;rw[<- er];simp![N7]
      ·have cx:r≠q:=of_decide_eq_true hd;obtain⟨eW,_⟩:=hW b (p.length+2+os.length) j0 r q Lr (by omega) (by omega) (lQ.len r hr) (lQ.len q sX) (lQ.bd r hr) (lQ.bd q sX) (FM.S3 CI Lv sX Qk.1 Qk.2 hr cx);simp![eW]
    refine⟨[~~~.tuple (p.map qD),~~~.list (os.map cm),~~~.list (((rows.filter λr=>decide (r≠q)).map (FM.wo q j0)).map aI),~~~.int ((p.length:Int)+2),~~~.list (wd.map nat),~~~.int (most:Int),some (.own (acc.map dX++[dX rows])),~~~(nat j0),~~~(aI q)],?_,⟨_,_,by rw[en,map_append];rfl⟩,hQ⟩;have n0:jb (aI q) .none=some (.bool false):=rfl;rw[e0,uF (by dsimp![n0])];simp![lW,length_map,zr,ec]
 ·rintro aj ⟨x7,x8,rfl⟩;have Qg:=FM.zc wd p.length 0 1 (FM.bh p os) [];generalize hfs:(range' 0 p.length).foldl (FM.eA wd) (FM.bh p os,1,[])=fs at *;have hl:fs.2.2.length=p.length:=by
   have:=congrArg List.length Qg;rw[length_append,nil_append,vW]at this;exact Nat.succ.inj this
  have za:fs.2.2.length<sizeLine:=lt_of_lt_of_le (show fs.2.2.length<1000 by omega) (sz (by decide));have es:FM.cH p os=fs.2.2++[fs.1]:=by
   unfold FM.cH;rw[GZ,Qg,nil_append]
  rw[es,map_append];simp![length_map,za,map_cons,map_nil]
structure Ds (c e:Nat) (p:List Rat) (os:List FM.Ol):Prop where
 c1:1<=c
 c3:c<=3000000
 e4:e<=4000000
 n5:p.length<=50
 k1:os.length<=100
 bt:FM.bt (c+e) p.length<=1900000
 cb:FM.cb (os.length+1) p.length<sizeLine
 sp:∀q∈p,SR c q
 dp:fg p<2^e
 ok:∀o∈os,Be c e p.length o
theorem Sj{p:List Rat}(h:Ds c e p os):∀i,i<=p.length->∃rs,(FM.cH p os)[i]?=some rs/\lV (p.length+2+os.length) (FM.bt (c+e) i) rs:=
 λi hi=>FO _ p.length 0 1 (c+e) _ (AF h.c1 h.sp h.dp h.ok) i hi
theorem Ow(p:List Rat)(os:List FM.Ol):(FM.cH p os).length=p.length+1:=vW _ _ _ _ _
def aP (g:Option (Bool×Rat)):Dat:=match g with
 |none=>.none
 |some (s,v)=>.tuple [qD v,.bool (!s)]
theorem L7(s:Bool):gi (.str (k0 s)) (.str "<=")=some (.bool (!s)):=by cases s<;>rfl
theorem NP(T:TX P K mg){a5:Addr}(Z5:TC K mg "ZERO_nearest" [.int 0,.int 1] a5)(rK:Dn P w K mg base 43 "minus" ["a","b"] 2 jP)(U:FnAt K mg "least_told" (top 33) ["end"]):
  ∃F,Dn P w K mg base 44 "least_told" ["end"] 1 F/\∀(n:Nat) b,n<=4000000->(∀x,b=some x->SR n x.2.1)->F [dz b]=some (aP (FM.pP b)):=by
 refine⟨_,dI ["end"] U λnd _ _ _ _ _ _ _ hr=>
  (ak (aJ (fw (fE (a7 0) bU) bU (c9 (k:=0) (a9 (aR rK hr (a9 (d6 Z5.mg Z5.tup) (a9 (ao (a7 0) ae) ag (hs:=b9)))) (a9 (iH hr (ao (a7 0) ae) cc) ag (hs:=jo)) (hs:=aV)))))),?_⟩
 intro n b hn hb;have z2:2<=sizeLine:=sz (by decide);cases b with
 |none=>rfl
 |some b=>
  have e:jP [.tuple [.int 0,.int 1],qD b.2.1]=some (qD (0-b.2.1)):=wO (mF (c:=1) (by decide)) (hb b rfl) (by decide) hn;have a0:bf (dz (some b)) (.int 0)=some (.str (k0 b.1)):=rfl;have a1:bf (dz (some b)) (.int 1)=some (qD b.2.1):=rfl;have er:aP (FM.pP (some b))=.tuple [qD (0-b.2.1),.bool (!b.1)]:=rfl;have ek:=L7 b.1;rw[er];generalize qD (0-b.2.1)=d0 at *;dsimp![ny,a0,a1,e,ek,z2]
theorem Et(T:TX P K mg)(U:FnAt K mg "greatest_told" (top 34) ["end"]):
  ∃F,Dn P w K mg base 44 "greatest_told" ["end"] 1 F/\∀b,F [dz b]=some (aP (FM.oT b)):=by
 refine⟨_,dI ["end"] U λnd _ _ _ _ _ _ _ hr=>
  (ak (aJ (fw (fE (a7 0) bU) bU (c9 (k:=0) (a9 (ao (a7 0) ae) (a9 (iH hr (ao (a7 0) ae) cc) ag (hs:=jo)) (hs:=b9)))))),?_⟩
 intro b;have z2:2<=sizeLine:=sz (by decide);cases b with
 |none=>rfl
 |some b=>
  have a0:bf (dz (some b)) (.int 0)=some (.str (k0 b.1)):=rfl;have a1:bf (dz (some b)) (.int 1)=some (qD b.2.1):=rfl;have er:aP (FM.oT (some b))=.tuple [qD b.2.1,.bool (!b.1)]:=rfl;have ek:=L7 b.1;rw[er];generalize qD b.2.1=d0 at *;dsimp![ny,a0,a1,ek,z2]
def FT (p:List Rat) (os:List FM.Ol):Dat:=match FM.never p.length (FM.aY p os)with
 |some _=>.none
 |none=>.tuple [aP (FM.mZ p os),aP (FM.nN p os)]
abbrev UY (F:List Dat->Option Dat):Prop:=∀(c e:Nat) (p:List Rat) (os:List FM.Ol),Ds c e p os->F [.tuple (p.map qD),.list (os.map cm)]=some (FT p os)
theorem Gz:j1 .none .none=some (.bool false):=rfl
theorem Po(ws:List Rat):j1 (.list (ws.map qD)) .none=some (.bool true):=rfl
variable {Fs:List Dat->Option Dat}
theorem Ra(T:TX P K mg){Fn Fu Fo Fl Fg:List Dat->Option Dat}(F2:Dn P w K mg base 49 "stages_of" ["parts","others"] 2 Fs)(hS:UW Fs)(RS:Dn P w K mg base 49 "never" ["stages"] 1 Fn)(hN:V7 Fn)(pS:Dn P w K mg base 49 "upper_end" ["stages"] 1 Fu)(hU:Dp 1 Fu)(lL:Dn P w K mg base 49 "opposite_end" ["stages"] 1 Fo)(hO:Dp (-1) Fo)(BH:Dn P w K mg base 49 "least_told" ["end"] 1 Fl)(hL:∀(n:Nat) b,n<=4000000->(∀x,b=some x->SR n x.2.1)->Fl [dz b]=some (aP (FM.pP b)))(wU:Dn P w K mg base 49 "greatest_told" ["end"] 1 Fg)(hG:∀b,Fg [dz b]=some (aP (FM.oT b)))(U:FnAt K mg "range_of_sum" (top 35) ["parts","others"]):
  ∃F,Dn P w K mg base 50 "range_of_sum" ["parts","others"] 2 F/\UY F:=by
 refine⟨_,dI ["parts","others","stages"] U λnd _ _ _ _ _ _ _ hr=>
  (ah (aL 2 nd (aR F2 hr (a9 (a7 0) (a9 (a7 1) ag))))
  (ah (bD (lx (aR RS hr (a9 (a7 2) ag)) bU) (ak (aJ bU)) ba)
  (ak (aJ (c9 (k:=0) (a9 (aR BH hr (a9 (aR lL hr (a9 (a7 2) ag)) ag (hs:=aV))) (a9 (aR wU hr (a9 (aR pS hr (a9 (a7 2) ag)) ag (hs:=aV))) ag (hs:=aV)) (hs:=aV))))))),?_⟩
 intro c e p os S;have z2:2<=sizeLine:=sz (by decide);have Ho:1<=FM.bt (c+e) p.length:=le_trans (show 1<=c+e by have:=S.c1;omega) (FM.EA _ _);have xH:=S.bt;have hn5:=S.n5;have hk1:=S.k1;have eS:=hS c e p os S.c1 S.c3 S.e4 S.n5 S.k1 S.sp S.dp S.ok (by omega) S.cb;obtain⟨rows,yx,lQ⟩:=Sj S p.length (le_refl _);have hlen:=Ow p os;have eN:=hN _ p.length _ (FM.cH p os) rows Ho hlen yx lQ (by omega) (by omega) (by omega) xH;have eU:=hU _ p.length _ (FM.cH p os) rows Ho hlen yx lQ (by omega) (by omega) (by omega) (by omega);have eO:=hO _ p.length _ (FM.cH p os) rows Ho hlen yx lQ (by omega) (by omega) (by omega) (by omega);have SQ:FM.aY p os=rows:=by unfold FM.aY;rw[getD_eq_getElem?_getD,yx];rfl
 have sE:∀t,FM.endOf p.length rows (-1)=some t->SR (FM.bt (c+e) p.length) t.2.1:=λt h=>(AL (.inr rfl) lQ h).1;have eL:=hL _ (FM.endOf p.length rows (-1)) (by omega) sE;have eG:=hG (FM.endOf p.length rows 1);unfold FT FM.mZ FM.nN;cases SQ;generalize dz (FM.endOf p.length (FM.aY p os) 1)=du at *;generalize dz (FM.endOf p.length (FM.aY p os) (-1))=do9 at *;generalize aP (FM.oT (FM.endOf p.length (FM.aY p os) 1))=dt at *;generalize aP (FM.pP (FM.endOf p.length (FM.aY p os) (-1)))=db at *;refine cJ ?_;simp!;rw[aU (aj:=[~~~.tuple (p.map qD),~~~.list (os.map cm),~~~.list ((FM.cH p os).map dX)]) (by dsimp![eS])];cases Ua:FM.never p.length (FM.aY p os)with
 |some ws=>
  rw[Ua]at eN;have R1:Fn [.list ((FM.cH p os).map dX)]=some (.list (ws.map qD)):=eN;dsimp![R1,Po]
 |none=>
  rw[Ua]at eN;have R1:Fn [.list ((FM.cH p os).map dX)]=some .none:=eN;dsimp![R1,Gz,eU,eO,eL,eG,z2]
theorem qY{aD:List (Option Nat)}{gt:Dat->Option cI}{ft:ax->Option Bool}{fe:ax->Option Dat}{fi:ax->Option (List Dat)}{out:List Dat}(h:fi ρ=some ds)(hl:ds.length<sizeLine)(hc:bT gt ft fe (dh aD ρ) ds=some out):fL (gh aD gt ft fe fi) ρ=some (.list out):=by
 unfold fL gh;rw[h];show((if ds.length<sizeLine then bT gt ft fe (dh aD ρ) ds else none).map _)=_;rw[if_pos hl,hc];rfl
theorem Mg{a:ax->Option Dat}(h:a ρ=some (.list ds)):d8 oh (aO a bS) ρ=some (.tuple ds):=by
 unfold d8 aO bS;rw[h];rfl
theorem QR{F:List Dat->Option Dat}{a b:ax->Option Dat}{x y d:Dat}(ha:a ρ=some x)(hb:b ρ=some y)(h:F [x,y]=some d):iR 2 F (aO a (aO b bS)) ρ=some d:=by
 unfold iR aO bS;rw[ha,hb];exact h
abbrev RB (F:List Dat->Option Dat):Prop:=∀(c e i n:Nat) (os:List FM.Ol),n<=50->Ds c e (FM.aZ n i) os->F [.int (i:Int),.int (n:Int),.list (os.map cm)]=some (FT (FM.aZ n i) os)
theorem NJ(T:TX P K mg){a5 a6:Addr}(Z5:TC K mg "ZERO_nearest" [.int 0,.int 1] a5)(Z6:TC K mg "ONE_nearest" [.int 1,.int 1] a6)(yj:Dn P w K mg base 50 "range_of_sum" ["parts","others"] 2 Fr)(hR:UY Fr)(U:FnAt K mg "range_of" (top 36) ["place","many","others"]):
  ∃F,Dn P w K mg base 51 "range_of" ["place","many","others"] 3 F/\RB F:=by
 refine⟨_,dI ["place","many","others"] U λnd _ _ _ _ _ _ _ hr=>
  (ak (aJ (aR yj hr (a9 (nr T.tuple (a9 (cS (gT rfl (cY (tn:=["one"]) (fv:=["place"]) (js:=[0]) rfl (by decide +kernel) (by decide +kernel) rfl (by decide +kernel) (by decide +kernel) rfl
   (λx hx=>by((have dF:x="place":=(by simpa using hx));(rcases dF with rfl<;>exact⟨_,rfl⟩)))
   (λp hp=>by((have cV:p=(("place" : Str),(0:Nat)):=(by simpa using hp));(rcases cV with rfl<;>exact⟨rfl,.inr (.inl rfl),.inl rfl,λz=>by cases z⟩)))) (i8 T.range (a9 (a7 1) ag)) (λ_ _ _ _=>(aA 0 (show(["one","place"]:List Str).Nodup by decide +kernel))) (λ_ _ _ _=>bV) (λ_ _ _ _=>(fw (cQ hr (a7 1) (a7 0)) (d6 Z6.mg Z6.tup) (d6 Z5.mg Z5.tup))) (cD rfl))) ag)) (a9 (a7 2) ag) (hs:=aV))))),?_⟩
 intro c e i n os hn S;have eR:=nR n (by omega);have q0:(.tuple [.int 0,.int 1]:Dat)=qD 0:=rfl;have q1:(.tuple [.int 1,.int 1]:Dat)=qD 1:=rfl;refine cJ (vU (QR (Mg (qY (kQ rfl eR) (by rw[rS];exact lt_of_le_of_lt hn (jA (by decide))) (fz _ ((FM.aZ n i).map qD) (by rw[rS,length_map,FM.iB]) λj d o h1 h2=>?_))) rfl (hR c e _ os S)));obtain⟨hj,rfl⟩:=tG h1;rw[getElem?_map]at h2;have eu:(FM.aZ n i)[j]?=some (if i=j then 1 else 0):=by
  unfold FM.aZ;rw[getElem?_map,getElem?_range hj];rfl
 rw[eu]at h2;cases h2;refine⟨_,rfl,?_⟩;by_cases CF:i=j
 ·subst CF;have e1:gi (.int (i:Int)) (.int (0+(i:Int)))=some (.bool true):=by rw[cG,decide_eq_true (by omega)]
  rw[if_pos rfl];simp![e1,q1]
 ·have e1:gi (.int (i:Int)) (.int (0+(j:Int)))=some (.bool false):=by rw[cG,decide_eq_false (by omega)]
  rw[if_neg CF];simp![e1,q0]
open PySem.W (kqdP kqdPs) in
theorem xS(a:Option (Bool×Rat)):SeqAt.shaped (kqdP (aP a))=true:=by
 match a with
 |none=>rfl
 |some (s,v)=>rfl
open PySem.W (kqdP kqdPs) in
theorem HA(a b:Option (Bool×Rat)):mU (aP a) (aP b)=some (decide (a=b)):=by
 unfold mU;rw[if_pos ⟨xS a,xS b⟩];match a,b with
 |none,none=>rfl
 |none,some (s,v)=>rfl
 |some (s,v),none=>rfl
 |some (s,v),some (s',v')=>
  show some (((v.num==v'.num)&&(((v.den:Int)==(v'.den:Int))&&true))&&(((!s)==(!s'))&&true))=_;by_cases e:v=v'
  ·subst e;cases s<;>cases s'<;>simp
  ·have cx:¬(v.num=v'.num/\(v.den:Int)=v'.den):=λh=>e (DV.mp (by rw[h.1,h.2]));have h2:((v.num==v'.num)&&(((v.den:Int)==(v'.den:Int))&&true))=false:=by
    rw[Bool.and_true];cases h3:(v.num==v'.num)with
    |false=>rfl
    |true=>
     cases h4:((v.den:Int)==(v'.den:Int))with
     |false=>rfl
     |true=>exact absurd ⟨eq_of_beq h3,eq_of_beq h4⟩ cx
   rw[h2,Bool.false_and];congr 1
   exact(decide_eq_false λh=>by cases h;exact e rfl).symm
theorem SD(a b:Option (Bool×Rat)):E7 (aP a) (aP b)=some (.bool (!decide (a=b))):=by
 unfold E7;rw[HA];rfl
theorem LK(a b:Option (Bool×Rat)):ub (aP a) (aP b)=some (.bool (decide (a=b))):=by
 unfold ub;rw[HA];rfl
def i5 (r:Option (Option (Bool×Rat)×Option (Bool×Rat))):Dat:=match r with
 |some (some (s,v),g)=>if g=some (s,v)then qD v else .none
 |_=>.none
def qy (r:Option (Option (Bool×Rat)×Option (Bool×Rat))):Dat:=match r with
 |none=>.none
 |some (l,g)=>.tuple [aP l,aP g]
def C0 (p:List Rat) (os:List FM.Ol):Option (Option (Bool×Rat)×Option (Bool×Rat)):=match FM.never p.length (FM.aY p os)with
 |some _=>none
 |none=>some (FM.mZ p os,FM.nN p os)
theorem KN(p:List Rat)(os:List FM.Ol):FT p os=qy (C0 p os):=by
 unfold FT C0;cases FM.never p.length (FM.aY p os)<;>rfl
theorem GR(l g:Option (Bool×Rat)):jb (.tuple [aP l,aP g]) .none=some (.bool false):=rfl
theorem GS(s:Bool)(v:Rat):jb (aP (some (s,v))) .none=some (.bool false):=rfl
theorem GU:jb (aP none) .none=some (.bool true):=rfl
theorem JY(T:TX P K mg)(U:FnAt K mg "single_worth" (top 37) ["ends"]):
  ∃F,Dn P w K mg base 44 "single_worth" ["ends"] 1 F/\∀r,F [qy r]=some (i5 r):=by
 refine⟨_,dI ["ends"] U λnd _ _ _ _ _ _ _ hr=>
  (ah (bD (fD (gC (fE (a7 0) bU) (gC (fE (ao (a7 0) ae) bU) (gS (J2 hr (ao (a7 0) ae) (ao (a7 0) ae)))))) (ak (aJ bU)) ba)
  (ak (aJ (ao (ao (a7 0) ae) ae)))),?_⟩
 intro r;match r with
 |none=>rfl
 |some (none,g)=>
  have e:qy (some (none,g))=.tuple [aP none,aP g]:=rfl;have e2:i5 (some (none,g))=.none:=rfl;have b0:bf (.tuple [aP none,aP g]) (.int 0)=some (aP none):=rfl;have i1:=GR none g;rw[e,e2];generalize Dat.tuple [aP none,aP g]=d0 at *;dsimp![i1,b0,GU]
 |some (some (s,v),g)=>
  have e:qy (some (some (s,v),g))=.tuple [aP (some (s,v)),aP g]:=rfl;have e2:i5 (some (some (s,v),g))=if g=some (s,v)then qD v else .none:=rfl;have a0:bf (aP (some (s,v))) (.int 0)=some (qD v):=rfl;have b0:bf (.tuple [aP (some (s,v)),aP g]) (.int 0)=some (aP (some (s,v))):=rfl;have b1:bf (.tuple [aP (some (s,v)),aP g]) (.int 1)=some (aP g):=rfl;have cx:=SD (some (s,v)) g;have i1:=GR (some (s,v)) g;have i2:=GS s v;rw[e,e2];generalize Dat.tuple [aP (some (s,v)),aP g]=d0 at *;by_cases h:g=some (s,v)
  ·rw[decide_eq_true h.symm]at cx;rw[if_pos h];generalize aP (some (s,v))=d1 at *;dsimp![i1,i2,b0,b1,cx,a0]
  ·rw[decide_eq_false λz=>h z.symm]at cx;rw[if_neg h];generalize aP (some (s,v))=d1 at *;dsimp![i1,i2,b0,b1,cx,a0]
abbrev Rv (F:List Dat->Option Dat):Prop:=∀(c e i n:Nat) (os:List FM.Ol),n<=50->Ds c e (FM.aZ n i) os->F [.int (i:Int),.int (n:Int),.list (os.map cm)]=some (i5 (C0 (FM.aZ n i) os))
theorem R8(T:TX P K mg)(rJ:Dn P w K mg base 51 "range_of" ["place","many","others"] 3 Fr)(hR:RB Fr)(yi:Dn P w K mg base 51 "single_worth" ["ends"] 1 Fs)(hS:∀r,Fs [qy r]=some (i5 r))(U:FnAt K mg "what_is" (top 38) ["place","many","others"]):
  ∃F,Dn P w K mg base 52 "what_is" ["place","many","others"] 3 F/\Rv F:=by
 refine⟨_,dI ["place","many","others"] U λnd _ _ _ _ _ _ _ hr=>
  (ak (aJ (aR yi hr (a9 (aR rJ hr (a9 (a7 0) (a9 (a7 1) (a9 (a7 2) ag)))) ag (hs:=aV))))),?_⟩
 intro c e i n os hn S;have eR:=hR c e i n os hn S;rw[KN]at eR;have eS:=hS (C0 (FM.aZ n i) os);generalize Dat.list (os.map cm)=d0 at *;dsimp![eR,eS]
theorem Mw{N:List Str}{g:ar->Option Fl}{es dH:List Dat}{d:Dat}(h:g (startM N ds es)=some (.rm d Γ))(h0:Γ[0]?=some (some (.own dH))):runM N g ds es=some (d,dH):=by
 unfold runM;rw[h];show(match (Γ[0]? : Option (Option Slot))with|some (some (.own dH))=>some (d,dH)|_=>none)=_
 rw[h0]
def WP (o:Option Fl) (Q:Fl->Prop):Prop:=∃fl,o=some fl/\Q fl
theorem wp_seq{g1 g2:ar->Option Fl}{Γ1:ar}{Q:Fl->Prop}(h:g1 Γ=some (.nx Γ1))(h2:WP (g2 Γ1) Q):WP (cN g1 g2 Γ) Q:=by
 rw[aU h];exact h2
theorem wp_seqx{g1 g2:ar->Option Fl}{Q:Fl->Prop}(I:ar->Prop)(h:∃Γ1,g1 Γ=some (.nx Γ1)/\I Γ1)(h2:∀Γ1,I Γ1->WP (g2 Γ1) Q):WP (cN g1 g2 Γ) Q:=by
 obtain⟨Γ1,e,i⟩:=h;exact wp_seq e (h2 Γ1 i)
theorem wp_runM{N:List Str}{g:ar->Option Fl}{es:List Dat}(D:α->Dat)(S:α->List Dat)(Pp:α->Prop)(h:WP (g (startM N ds es)) (λfl=>∃a Γ,fl=.rm (D a) Γ/\Γ[0]?=some (some (.own (S a)))/\Pp a)):∃a,runM N g ds es=some (D a,S a)/\Pp a:=by
 obtain⟨fl,e,a,Γ,rfl,h0,p⟩:=h;exact⟨a,Mw e h0,p⟩
theorem UH{β γ:Type}{Q:α->β->γ->Prop}(h:∃a:α×β×γ,Q a.1 a.2.1 a.2.2):∃x y z,Q x y z:=by
 obtain⟨⟨x,y,z⟩,q⟩:=h;exact⟨x,y,z,q⟩
def LB:ar->Nat
 |_::some (.a8 (.int d))::_=>d.natAbs+1
 |_=>0
abbrev PM:ax->Option Bool:=bY (f2 ix (aH 3) (fC (Dat.int 0)))
abbrev PN:ar->Option Fl:=DI 2 3 (aO (aH 3) (aO (f2 zN (aH 2) (aH 3)) bS))
theorem Cu(x y:Option Slot):∀(n:Nat) (a b:Int),0<=a->0<=b->b.natAbs<n->fB PM PN n [x,y,~~~.int a,~~~.int b]=some (.nx [x,y,~~~.int (gcd a b),~~~.int 0])
 |0,a,b,_,_,h=>by omega
 |n+1,a,b,ha,hb,h=>by
  have eT:∀b:Int,PM (bE [x,y,~~~.int a,~~~.int b])=some (!decide (b=0)):=λb=>by
   show(ix (.int b) (.int 0)).bind lE=_;rw[fT];rfl
  by_cases e:b=0
  ·subst e;rw[yJ (by rw[eT];rfl)];have:((gcd a 0:Nat):Int)=a:=by rw[Int.gcd_zero_right];omega
   rw[this]
  ·have hp:0<b:=by omega
   have bd:=wz a hp;have e1:PN [x,y,~~~.int a,~~~.int b]=some (.nx [x,y,~~~.int b,~~~.int (a.fmod b)]):=by
    have em:=jw (a:=a) (b:=b) e;show(DI 2 3 (aO (aH 3) (aO (L3.f2 zN (aH 2) (aH 3)) bS)) _)=_;simp![DI,em]
   rw[yI (by rw[eT,decide_eq_false e];rfl) e1,Cu x y n b (a.fmod b) hb bd.1 (by omega),Fr.Aq a b hp]
theorem T3(T:TX P K mg)(U:FnAt K mg "_law_low" (top 42) ["n","d"]):Dn P w K mg base 41 "_law_low" ["n","d"] 2 f9:=by
 obtain⟨f,fd,U,hm,hB⟩:=U.ex;have nd:(["n","d","one","other"]:List Str).Nodup:=by decide +kernel
 refine iK U hm hB (N:=["n","d","one","other"]) ⟨rfl,rfl,rfl,by decide +kernel,rfl,by decide +kernel,by decide +kernel⟩ rfl (λbC A outer s H E hr=>
  (ah (aL 2 nd (mw T.abs (a9 (a7 0) ag)))
  (ah (aL 3 nd (mw T.abs (a9 (a7 1) ag)))
  (ah (uK LB PassesOwn.never (fS hr (a7 3) ae) (ak (IY 2 3 rfl nd (by decide) (a9 (a7 3) (a9 (kK (a7 2) (a7 3)) ag (hs:=bF))))))
  (ah (bD (mv (a7 1) ae) (ak (aL 2 nd (i9 ae (a7 2)))) ba)
  (ak (aJ (c9 (k:=0) (a9 (g9 T.seer hr (a7 0) (a7 2)) (a9 (g9 T.seer hr (a7 1) (a7 2)) ag (hs:=bF)) (hs:=bF)))))))))) ?_
 intro ds d' hl hF;unfold f9 at hF;split at hF
 ·rename_i n d;split at hF
  ·rename_i h;cases hF;have g0:gcd (n.natAbs:Int) (d.natAbs:Int)=gcd n d:=by simp[gcd]
   have hl:=Cu (some (.a8 (.int n))) (some (.a8 (.int d))) (d.natAbs+1) n.natAbs d.natAbs (by omega) (by omega) (by omega);rw[g0]at hl;have hw:mG LB PM PN [~~~.int n,~~~.int d,~~~.int n.natAbs,~~~.int d.natAbs]=_:=hl;have hn:=jy n;have dM:=jy d;have q1:lh (.int n) (.int (Fr.dv n d))=some (.int (Fr.num n d)):=gw (Fr.yB h.1);have q2:lh (.int d) (.int (Fr.dv n d))=some (.int (Fr.den n d)):=gw (Fr.yB h.1);have z2:2<=sizeLine:=sz (by decide);refine cJ ?_;simp!;rw[aU (aj:=[~~~.int n,~~~.int d,~~~.int n.natAbs,none]) (by dsimp![hn])];rw[aU (aj:=[~~~.int n,~~~.int d,~~~.int n.natAbs,~~~.int d.natAbs]) (by dsimp![dM])];rw[aU (aj:=[~~~.int n,~~~.int d,~~~.int (gcd n d),~~~.int 0]) hw];have dw:=fU d 0;have hs:=cM 0 (gcd n d);by_cases hd:d<0
   ·have e2:0-(gcd n d:Int)=Fr.dv n d:=by unfold Fr.dv;rw[if_pos hd];omega
    rw[decide_eq_true hd]at dw;rw[e2]at hs;dsimp![dw,hs,q1,q2,z2]
   ·have e2:(gcd n d:Int)=Fr.dv n d:=by unfold Fr.dv;exact(if_neg hd).symm
    rw[decide_eq_false hd]at dw;rw[e2];dsimp![dw,q1,q2,z2]
  ·cases hF
 ·cases hF
theorem NO(T:TX P K mg)(ng:Dn P w K mg base 41 "_law_low" ["n","d"] 2 f9)(U:FnAt K mg "_law_plus" (top 43) ["a","b"]):Dn P w K mg base 42 "_law_plus" ["a","b"] 2 iW:=by
 obtain⟨f,fd,U,hm,hB⟩:=U.ex;have nd:(["a","b"]:List Str).Nodup:=by decide +kernel
 refine iK U hm hB (N:=["a","b"]) ⟨rfl,rfl,rfl,by decide +kernel,rfl,by decide +kernel,by decide +kernel⟩ rfl (λbC A outer s H E hr=>
  (ak (aJ (aR ng hr (a9 (cW (bQ (ao (a7 0) ae) (ao (a7 1) ae)) (bQ (ao (a7 1) ae) (ao (a7 0) ae))) (a9 (bQ (ao (a7 0) ae) (ao (a7 1) ae)) ag (hs:=bF)) (hs:=bF)))))) ?_
 intro ds d hl hF;obtain⟨p,q,r,s,rfl,g1,g2,e⟩:=gy hF;have z:=mul_ne_zero (ne_of_gt g1.pos) (ne_of_gt g2.pos);cases e;simp![fr,n8,n6,bX,mulM g1.mp g2.mq,mulM g2.mp g1.mq,mulM g1.mq g2.mq,kN z (g1.mq.mul g2.mq)]
theorem K3(T:TX P K mg)(ng:Dn P w K mg base 41 "_law_low" ["n","d"] 2 f9)(U:FnAt K mg "_law_times" (top 44) ["a","b"]):Dn P w K mg base 42 "_law_times" ["a","b"] 2 ic:=by
 obtain⟨f,fd,U,hm,hB⟩:=U.ex;have nd:(["a","b"]:List Str).Nodup:=by decide +kernel
 refine iK U hm hB (N:=["a","b"]) ⟨rfl,rfl,rfl,by decide +kernel,rfl,by decide +kernel,by decide +kernel⟩ rfl (λbC A outer s H E hr=>
  (ak (aJ (aR ng hr (a9 (bQ (ao (a7 0) ae) (ao (a7 1) ae)) (a9 (bQ (ao (a7 0) ae) (ao (a7 1) ae)) ag (hs:=bF)) (hs:=bF)))))) ?_
 intro ds d hl hF;obtain⟨p,q,r,s,rfl,g1,g2,e⟩:=gy hF;have z:=mul_ne_zero (ne_of_gt g1.pos) (ne_of_gt g2.pos);cases e;simp![fr,n8,n6,mulM g1.mp g2.mp,mulM g1.mq g2.mq,kN z (g1.mq.mul g2.mq)]
abbrev R:=Int×Int
abbrev rD (r:R):List Dat:=[.int r.1,.int r.2]
abbrev tf (F:List Dat->List Dat->Option (Dat×List Dat)):Prop:=∀(r:R) (m:Int),0<m->m<2^200->∃(k:Int) (r':R),F (rD r) [.int m]=some (.int k,rD r')/\0<=k/\k<m
theorem Rh(T:TX P K mg)(U:FnAt K mg "_law_next" (top 40) ["pot","many"]):
  ∃F,eI P w K mg base 41 "_law_next" ["pot","many"] 2 F/\tf F:=by
 refine⟨_,l6 ["pot","many","cell","stir"] U λnd _ _ _ _ _ _ _ hr=>(ah (lZ 0 (az (cW (ao (a7 0) ae) ae)))
  (ah (aL 2 nd (ao (a7 0) ae))
  (ah (bD (MF (a7 2) (ou ae ae)) (ah (lZ 0 (az (g9 T.seer hr (a7 2) (a7 1))))
  (ak (eZ (az (kK (a7 2) (a7 1)))))) ba)
  (ah (aL 3 nd (kK (cW (cW (bQ (a7 2) ae) (bQ (ao (a7 0) ae) ae)) ae) ae))
  (ah (aL 3 nd (kK (bQ (a7 3) (a7 3)) ae))
  (ak (eZ (az (kK (g9 T.seer hr (kK (cW (bQ (a7 3) ae) (bQ (ao (a7 0) ae) ae)) ae) ae) (a7 1)))))))))),?_⟩
 intro r m h1 h2;have xF:m≠0:=by omega
 obtain⟨a,b⟩:=r;have i0:∀x y:Dat,gH [x,y] 0=some x:=λ_ _=>rfl;have i1:∀x y:Dat,gH [x,y] 1=some y:=λ_ _=>rfl;have n0:lM 2 0=some 0:=rfl;have n1:lM 2 1=some 1:=rfl;have ha:=bX b 1;have hg:=Nn a (10^18);have bm:∀x:Int,0<=x.fmod m/\x.fmod m<m:=λx=>wz x h1;by_cases UB:(10:Int)^18<=a
 ·rw[decide_eq_true UB]at hg;have e1:=jw (a:=a) (b:=m) xF;have e2:lh (.int a) (.int m)=some (.int (a.fdiv m)):=gw xF;refine⟨a.fmod m,(a.fdiv m,b+1),?_,bm a⟩;generalize a.fmod m=k at e1;generalize a.fdiv m=q at e2;simp![qv,i0,i1,n0,n1,ha,hg,DY,e1,e2]
 ·rw[decide_eq_false UB]at hg;have e1:=mulR a (b:=69621) (by decide) (by decide);have e2:=mulR (b+1) (b:=7919) (by decide) (by decide);have e3:=jw (a:=a*69621+(b+1)*7919+13) (b:=2147483647) (by decide);have b3:=wz (a*69621+(b+1)*7919+13) (b:=2147483647) (by decide);have a1:=bX (a*69621) ((b+1)*7919);have a2:=bX (a*69621+(b+1)*7919) 13;generalize (a*69621+(b+1)*7919+13).fmod 2147483647=s1 at e3 b3;have e4:iM (.int s1) (.int s1)=some (.int (s1*s1)):=mulR _ (by omega) (by omega);have e5:=jw (a:=s1*s1) (b:=2147483629) (by decide);generalize (s1*s1).fmod 2147483629=s2 at e5;have e6:=mulR s2 (b:=48271) (by decide) (by decide);have e7:=mulR (b+1) (b:=40692) (by decide) (by decide);have a3:=bX (s2*48271) ((b+1)*40692);have e8:=jw (a:=s2*48271+(b+1)*40692) (b:=2147483587) (by decide);generalize (s2*48271+(b+1)*40692).fmod 2147483587=s3 at e8;have e9:lh (.int s3) (.int 8)=some (.int (s3.fdiv 8)):=gw (show(8:Int)≠0 by decide);generalize s3.fdiv 8=s4 at e9;have UJ:=jw (a:=s4) (b:=m) xF;refine⟨s4.fmod m,(a,b+1),?_,bm s4⟩;generalize s4.fmod m=k at UJ;simp![qv,i0,i1,n0,n1,ha,hg,DY,e1,e2,e3,a1,a2,e4,e5,e6,e7,a3,e8,e9,UJ]
theorem CO{β:Type}{Q:α->β->Prop}(h:∃a:α×β,Q a.1 a.2):∃x y,Q x y:=by
 obtain⟨⟨x,y⟩,q⟩:=h;exact⟨x,y,q⟩
theorem Ga(n:Int):(.tuple [.int n,.int 1]:Dat)=qD (n:Rat):=rfl
abbrev M3 (c:Nat) (F:List Dat->List Dat->Option (Dat×List Dat)):Prop:=∀r:R,∃(q:Rat) (r':R),F (rD r) []=some (qD q,rD r')/\SR c q
theorem K1(T:TX P K mg){Fx:List Dat->List Dat->Option (Dat×List Dat)}(bN:eI P w K mg base 41 "_law_next" ["pot","many"] 2 Fx)(hX:tf Fx)(ng:Dn P w K mg base 41 "_law_low" ["n","d"] 2 f9)(U:FnAt K mg "_law_number" (top 46) ["pot"]):
  ∃F,eI P w K mg base 42 "_law_number" ["pot"] 1 F/\M3 20 F:=by
 refine⟨_,l6 ["pot","kind"] U λnd _ _ _ _ _ _ _ hr=>(ah (eY 1 nd (bA 0 bN hr (ay (az ae) aK)))
  (ah (bD (mv (a7 1) ae) (ak (eZ (mr (ay (oq (bA 0 bN hr (ay (az ae) aK)) (az ae)) (ay (az ae) aK) (hst:=bF))))) ba)
  (ah (bD (mv (a7 1) ae) (ak (eZ (uL ng hr (ay (oq (bA 0 bN hr (ay (az ae) aK)) (az ae)) (ay (ot (az ae) (bA 0 bN hr (ay (az ae) aK))) aK (hst:=bF)) (hst:=bF))))) ba)
  (ak (eZ (mr (ay (oq (bA 0 bN hr (ay (az ae) aK)) (az ae)) (ay (az ae) aK) (hst:=bF)))))))),?_⟩
 intro r;have z2:2<=sizeLine:=sz (by decide);refine CO (wp_runM (λa:Rat×R=>qD a.1) (λa=>rD a.2) (λa=>SR 20 a.1) ?_);show WP (cN _ _ [some (.own (rD r)),none]) _;obtain⟨k,r1,e1,b1,UQ⟩:=hX r 8 (by decide) (by decide);have kA:Fx [.int r.1,.int r.2] [.int 8]=some (.int k,rD r1):=e1;refine wp_seq (Γ1:=[some (.own (rD r1)),~~~.int k]) (by simp![kA]) ?_;have l5:=fU k 5;have l7:=fU k 7;by_cases c5:k<5
 ·rw[decide_eq_true c5]at l5;obtain⟨n,r2,e2,b2,LR⟩:=hX r1 11 (by decide) (by decide);have jl:Fx [.int r1.1,.int r1.2] [.int 11]=some (.int n,rD r2):=e2;have s2:=cM n 5;refine⟨.rm (qD ((n-5:Int):Rat)) [some (.own (rD r2)),~~~.int k],?_,(((n-5:Int):Rat),r2),_,rfl,rfl,qq (by decide) (by omega)⟩;rw[<- Ga];simp![l5,jl,s2,z2]
 ·rw[decide_eq_false c5]at l5;refine wp_seq (Γ1:=[some (.own (rD r1)),~~~.int k]) (by simp![l5]) ?_;by_cases c7:k<7
  ·rw[decide_eq_true c7]at l7;obtain⟨n,r2,e2,b2,LR⟩:=hX r1 41 (by decide) (by decide);have jl:Fx [.int r1.1,.int r1.2] [.int 41]=some (.int n,rD r2):=e2;obtain⟨m,r3,e3,b3,YT⟩:=hX r2 6 (by decide) (by decide);have vi:Fx [.int r2.1,.int r2.2] [.int 6]=some (.int m,rD r3):=e3;have s2:=cM n 20;have s3:=bX 1 m;have em:=Jv (z:=n-20) (p:=1+m) (by omega) (lt_of_lt_of_le (show(1+m).natAbs<2^20 by omega) (pow_le_pow_right (by decide) (by decide)));refine⟨.rm (qD (((n-20:Int):Rat)/((1+m:Int):Rat))) [some (.own (rD r3)),~~~.int k],?_,((((n-20:Int):Rat)/((1+m:Int):Rat)),r3),_,rfl,rfl,mm (by omega) (by omega) (by omega)⟩;generalize qD (((n-20:Int):Rat)/((1+m:Int):Rat))=dq at *;simp![l7,jl,vi,s2,s3,em]
  ·rw[decide_eq_false c7]at l7;refine wp_seq (Γ1:=[some (.own (rD r1)),~~~.int k]) (by simp![l7]) ?_;obtain⟨n,r2,e2,b2,LR⟩:=hX r1 20001 (by decide) (by decide);have jl:Fx [.int r1.1,.int r1.2] [.int 20001]=some (.int n,rD r2):=e2;have s2:=cM n 10000;refine⟨.rm (qD ((n-10000:Int):Rat)) [some (.own (rD r2)),~~~.int k],?_,(((n-10000:Int):Rat),r2),_,rfl,rfl,qq (by decide) (by omega)⟩;rw[<- Ga];simp![jl,s2,z2]
theorem VS:J9 (.int 10) (.int 9)=some (.int (10^9)):=gw (by unfold F5;decide)
theorem T5(T:TX P K mg){Fx Fn:List Dat->List Dat->Option (Dat×List Dat)}(bN:eI P w K mg base 42 "_law_next" ["pot","many"] 2 Fx)(hX:tf Fx)(IB:eI P w K mg base 42 "_law_number" ["pot"] 1 Fn)(hN:M3 20 Fn)(U:FnAt K mg "_law_far" (top 48) ["pot"]):
  ∃F,eI P w K mg base 43 "_law_far" ["pot"] 1 F/\M3 62 F:=by
 refine⟨_,l6 ["pot"] U λnd _ _ _ _ _ _ _ hr=>(ah (p8 (vY hr (bA 0 bN hr (ay (az ae) aK)) (az ae)) (ak (eZ (mr (ay (oq (ot (MD (bA 0 bN hr (ay (az (bQ ae (ou ae ae))) aK (hst:=bF))) (az (ou ae ae))) (bA 0 bN hr (ay (az (ou ae ae)) aK (hst:=bF)))) (az (ou ae ae))) (ay (az ae) aK) (hst:=bF))))) ba)
  (ak (eZ (bA 0 IB hr aK)))),?_⟩
 intro r;have z2:2<=sizeLine:=sz (by decide);refine CO (wp_runM (λa:Rat×R=>qD a.1) (λa=>rD a.2) (λa=>SR 62 a.1) ?_);show WP (cN _ _ [some (.own (rD r))]) _;obtain⟨k,r1,e1,b1,UQ⟩:=hX r 9 (by decide) (by decide);have kA:Fx [.int r.1,.int r.2] [.int 9]=some (.int k,rD r1):=e1;have q0:=cG k 0;by_cases c0:k=0
 ·rw[decide_eq_true c0]at q0;obtain⟨n,r2,e2,b2,LR⟩:=hX r1 (2*10^9) (by decide) (by decide);obtain⟨m,r3,e3,b3,YT⟩:=hX r2 (10^9) (by decide) (by decide);have jl:Fx [.int r1.1,.int r1.2] [.int (2*10^9)]=some (.int n,rD r2):=e2;have vi:Fx [.int r2.1,.int r2.2] [.int (10^9)]=some (.int m,rD r3):=e3;have m1:iM (.int 2) (.int (10^9))=some (.int (2*10^9)):=mulR _ (by decide) (by decide);have m2:iM (.int n) (.int (10^9))=some (.int (n*10^9)):=mulR _ (by decide) (by decide);have a2:=bX (n*10^9) m;have s2:=cM (n*10^9+m) (10^18);refine⟨.rm (qD ((n*10^9+m-10^18:Int):Rat)) [some (.own (rD r3))],?_,(((n*10^9+m-10^18:Int):Rat),r3),_,rfl,rfl,qq (by decide) (by omega)⟩;rw[<- Ga];generalize n*10^9+m-10^18=y at *;generalize n*10^9+m=y2 at *;generalize n*10^9=y3 at *;simp![kA,q0,VS,m1,jl,m2,vi,a2,DY,s2,z2]
 ·rw[decide_eq_false c0]at q0;refine wp_seq (Γ1:=[some (.own (rD r1))]) (by simp![kA,q0]) ?_;obtain⟨q,r2,e2,hq⟩:=hN r1;have jl:Fn [.int r1.1,.int r1.2] []=some (qD q,rD r2):=e2;refine⟨.rm (qD q) [some (.own (rD r2))],?_,(q,r2),_,rfl,rfl,hq.up (by decide)⟩;generalize qD q=dq at *;simp![jl]
abbrev UZ (F:List Dat->Option (List (List Int))):Prop:=∀ns:List Int,ns.length<=63->∃rs:List R,F [.list (ns.map .int)]=some (rs.map λr=>[r.1,r.2])
theorem xX{gt:Dat->Option cI}{fe:ax->Option (List Dat)}{ik:ax}:∀(ns:List Int),(∀n:Int,∃as,gt (.int n)=some as/\fe (gQ ik as)=some [.int n,.int 0])->vn gt fe ik (ns.map .int)=some (ns.map λn=>[n,0])
 |[],_=>rfl
 |n::ns,h=>by
  obtain⟨as,e1,e2⟩:=h n;show(gt (.int n)).bind _=_;rw[e1,Option.bind_some,e2,Option.bind_some];show(Option.map _ (vn gt fe ik (ns.map .int)))=_;rw[xX ns h];rfl
theorem Rn(ds:List Dat)(m:Nat):L3.cutD ds none (some (m:Int))=ds.take m:=by
 unfold L3.cutD;rw[HT.oo,HT.p0,drop_zero,sub_zero];by_cases h:m<=ds.length
 ·rw[Nat.min_eq_left h]
 ·rw[Nat.min_eq_right (by omega),take_of_length_le (le_refl _),take_of_length_le (by omega)]
theorem Rb(T:TX P K mg)(U:FnAt K mg "_law_pots" (top 41) ["script"]):
  ∃F,vH P w K mg base 41 "_law_pots" ["script"] 1 F/\UZ F:=by
 refine⟨_,So ["script"] U rfl (λnd _ _ _ _ _ _ _ hr=>cQ hr (dW T.len (a9 (a7 0) ag)) ae) (λnd _ _ _ _ _ _ _ hr=>J3 (gm (a9 ae (a9 ae ag)))) (λnd _ _ _ _ _ _ _ hr=>G7 rfl (iS (N':=["cell"])) (pd (fY (a7 0) gL (gK ae))) (λ_ _ _ _=>(aA 0 (show(["cell"]:List Str).Nodup by decide +kernel))) (λ_ _ _ _=>bV) (λ_ _ _ _=>gm (a9 (a7 0) (a9 ae ag))) (cD rfl)),?_⟩;intro ns hl;have z2:2<=sizeLine:=sz (by decide);have ln:j9 [.list (ns.map .int)]=some (.int (ns.length:Int)):=by show some (Dat.int ((ns.map Dat.int).length:Int))=_;rw[length_map]
 have ge:∀b:Bool,(decide ((ns.length:Int)=0))=b->∀(f1 f2:ax->Option (List (List Int))),IT ["script"] (bY (L3.f2 gi (d8 j9 (aO (aH 0) bS)) (fC (.int 0)))) f1 f2 [.list (ns.map .int)]=if b=true then f1 (bE [~~~.list (ns.map .int)])else f2 (bE [~~~.list (ns.map .int)]):=λb hb f1 f2=>by
  have e:bY (L3.f2 gi (d8 j9 (aO (aH 0) bS)) (fC (.int 0))) (bE (cy ["script"] [.list (ns.map .int)]))=some b:=by
   have eq:=cG (ns.length:Int) 0;rw[hb]at eq;generalize Dat.list (ns.map .int)=d0 at *;dsimp![ln,eq]
  unfold IT;rw[e];rfl
 by_cases h0:(ns.length:Int)=0
 ·refine⟨[(0,0)],(ge true (decide_eq_true h0) _ _).trans ?_⟩;rw[if_pos rfl];unfold Ep;have e:oJ (aO (fC (.int 0)) (aO (fC (.int 0)) bS)) (bE [~~~.list (ns.map .int)])=some [.int 0,.int 0]:=by simp![z2]
  rw[e];rfl
 ·refine⟨(ns.take 63).map λn=>(n,0),(ge false (decide_eq_false h0) _ _).trans ?_⟩;rw[if_neg Bool.false_ne_true];have s1:xh (.list (ns.map .int)) none (some 63)=some (.list ((ns.take 63).map .int)):=by
   show some (Dat.list (L3.cutD (ns.map Dat.int) none (some ((63:Nat):Int))))=_;rw[Rn,map_take]
  have q8:(ns.take 63).length<=63:=by rw[length_take];omega
  generalize ns.take 63=cs at s1 q8;unfold ve;have e:GW (lH (aH 0) jW (jV (fC (.int 63)))) (bE [~~~.list (ns.map .int)])=some (cs.map .int):=by
   unfold GW;have e2:lH (aH 0) jW (jV (fC (.int 63))) (bE [~~~.list (ns.map .int)])=some (.list (cs.map .int)):=by dsimp![lH,jV,jW,rA,s1]
   rw[e2];rfl
  rw[e,Option.bind_some,if_pos (by rw[length_map];exact lt_of_le_of_lt q8 (jA (by decide)))];rw[xX cs λn=>⟨[(0,.int n)],rfl,by simp![z2]⟩,map_map];rfl
def Al:Nat->Dat->Prop
 |0,_=>False
 |n+1,.tuple ds=>ds.length<=1000/\∀d∈ds,Al n d
 |_+1,.int _=>True
 |_+1,.str _=>True
 |_+1,.bool _=>True
 |_+1,.none=>True
 |_+1,_=>False
abbrev Vw (n:Nat) (F:List Dat->Option Dat):Prop:=∀d,Al n d->F [d,d]=some (.bool true)
theorem yF:∀(ds:List Dat),dP ds ds=ds.map λd=>.tuple [d,d]
 |[]=>rfl
 |d::ds=>by show Dat.tuple [d,d]::dP ds ds=_;rw[yF ds];rfl
theorem Dg(T:TX P K mg)(U:FnAt K mg "_law_alike" (top 56) ["told","due"]):∀n:Nat,
  ∃F,Dn P w K mg base (40+n) "_law_alike" ["told","due"] 2 F/\Vw n F
 |0=>by
  obtain⟨f,fd,U,hm,hB⟩:=U.ex;exact⟨λ_=>none,ND U hm hB,λd h=>h.elim⟩
 |n+1=>by
  obtain⟨F0,pU,h0⟩:=Dg T U n;refine⟨_,dI ["told","due","one","other"] U λnd _ _ _ _ _ _ _ hr=>
   (ah (bD (fE (a7 1) bU) (ak (aJ (MH (a7 0) bU))) ba)
  (ah (bD (fo (fZ "bool" T.isinstance T.bool (a7 1))) (ak (aJ (kL (fZ "bool" T.isinstance T.bool (a7 0)) (kJ (iH hr (a7 0) (a7 1)))))) ba)
  (ah (bD (fo (fZ "str" T.isinstance T.str (a7 1))) (ak (aJ (kL (fZ "str" T.isinstance T.str (a7 0)) (kJ (iH hr (a7 0) (a7 1)))))) ba)
  (ah (bD (fo (fZ "int" T.isinstance T.int (a7 1))) (ak (aJ (kL (fZ "int" T.isinstance T.int (a7 0)) (kL (MG (fZ "bool" T.isinstance T.bool (a7 0))) (kJ (iH hr (a7 0) (a7 1))))))) ba)
  (ah (bD (fD (gC (tJ (fo (fZ "tuple" T.isinstance T.tuple (a7 0)))) (gS (fS hr (dW T.len (a9 (a7 0) ag)) (dW T.len (a9 (a7 1) ag)))))) (ak (aJ iI)) ba)
  (ah (jD PassesOwn.never rfl (kH T.zip (a9 (a7 0) (a9 (a7 1) ag))) (fm (n:=2) rfl (aX (aA 2 nd) (aX (aA 3 nd) cK)))
  (ak (bD (tJ (fo (aR pU hr (a9 (a7 2) (a9 (a7 3) ag))))) (ak (aJ iI)) ba)))
  (ak (aJ iI)))))))),?_⟩
  intro d hd;have nb:∀x,oD "bool" (.str x)=some (.bool false):=λ_=>rfl;have bb:∀x,oD "bool" (.bool x)=some (.bool true):=λ_=>rfl;have is:∀x,oD "str" (.int x)=some (.bool false):=λ_=>rfl;have tb:∀x,oD "bool" (.tuple x)=some (.bool false):=λ_=>rfl;have ti:∀x,oD "int" (.tuple x)=some (.bool false):=λ_=>rfl;have ts:∀x,oD "str" (.tuple x)=some (.bool false):=λ_=>rfl;have X7:∀x:List Dat,j9 [.tuple x]=some (.int (x.length:Int)):=λ_=>rfl;cases d with
  |none=>simp![jb,k6]
  |bool b=>simp![jb,k6,bb,AJ,beq_self_eq_true]
  |int i=>simp![jb,k6,PZ,Q0,is,cG]
  |str x=>simp![jb,k6,nb,SH,Ny rfl]
  |tuple ds=>
   refine cJ ?_;simp!;rw[aU (aj:=[~~~.tuple ds,~~~.tuple ds,none,none]) (by simp![jb,k6]),aU (aj:=[~~~.tuple ds,~~~.tuple ds,none,none]) (by simp![tb]),aU (aj:=[~~~.tuple ds,~~~.tuple ds,none,none]) (by simp![ts]),aU (aj:=[~~~.tuple ds,~~~.tuple ds,none,none]) (by simp![ti]),aU (aj:=[~~~.tuple ds,~~~.tuple ds,none,none]) (by simp![SG,X7,fT])];have hz:me (aO (aH 0) (aO (aH 1) bS)) (bG [~~~.tuple ds,~~~.tuple ds,none,none])=some (ds.map λd=>.tuple [d,d]):=by
    rw[<- yF];rfl
   obtain⟨aj,e1,u,v,e2⟩:=qW (λd:Dat=>.tuple [d,d]) (λ_ Γ=>∃u v,Γ=[~~~.tuple ds,~~~.tuple ds,u,v]) (λ_ l=>∀d∈l,d∈ds) (λs _=>s) (gt:=je 2 (cR (aName 2) (cR (aName 3) jf))) (gb:=iE (lj (o6 (iR 2 F0 (aO (aH 2) (aO (aH 3) bS))))) (lG (fC (.bool false))) ir) (l:=ds) (s:=()) hz (λd h=>h) ⟨_,_,rfl⟩ (by
     rintro s d l Γ hi ⟨u,v,rfl⟩;refine⟨[(2,d),(3,d)],rfl,[~~~.tuple ds,~~~.tuple ds,~~~(d),~~~(d)],?_,⟨_,_,rfl⟩,λj hj=>hi j (mem_cons_of_mem _ hj)⟩;have t:=h0 d (hd.2 d (hi d mem_cons_self));generalize Dat.tuple ds=dt at *;dsimp![t])
   rw[aU e1,e2];simp![]
  |_=>exact hd.elim
theorem Tx:(.tuple [.int 0,.int 1]:Dat)=qD 0:=rfl
def TQ (b:Rat):Dat:=.tuple [.int (0-b.num),.int (b.den:Int)]
theorem Pw(b:Rat):TQ b=qD (-b):=by
 unfold TQ;rw[show qD (-b)=.tuple [.int (-b).num,.int ((-b).den:Int)]from rfl,Rat.neg_num,Rat.neg_den,zero_sub]
theorem IX(hz:0<z)(hp:0<p):(0:Rat)<(z:Rat)/(p:Rat):=by
 rw[Rat.div_def];exact Rat.mul_pos (Rat.intCast_pos.mpr hz) (inv_pos.mpr (Rat.intCast_pos.mpr hp))
abbrev Mb (F:List Dat->List Dat->Option (Dat×List Dat)):Prop:=∀r:R,∃(q:Rat) (r':R),F (rD r) []=some (qD q,rD r')/\SR 4 q/\0<q
theorem NV(T:TX P K mg){Fx:List Dat->List Dat->Option (Dat×List Dat)}(bN:eI P w K mg base 41 "_law_next" ["pot","many"] 2 Fx)(hX:tf Fx)(ng:Dn P w K mg base 41 "_law_low" ["n","d"] 2 f9)(U:FnAt K mg "_law_above" (top 47) ["pot"]):
  ∃F,eI P w K mg base 42 "_law_above" ["pot"] 1 F/\Mb F:=by
 refine⟨_,l6 ["pot"] U λnd _ _ _ _ _ _ _ hr=>(ak (eZ (uL ng hr (ay (ot (az ae) (bA 0 bN hr (ay (az ae) aK))) (ay (ot (az ae) (bA 0 bN hr (ay (az ae) aK))) aK (hst:=bF)) (hst:=bF))))),?_⟩;intro r;refine CO (wp_runM (λa:Rat×R=>qD a.1) (λa=>rD a.2) (λa=>SR 4 a.1/\0<a.1) ?_);obtain⟨n,r1,e1,b1,UQ⟩:=hX r 6 (by decide) (by decide);have kA:Fx [.int r.1,.int r.2] [.int 6]=some (.int n,rD r1):=e1;obtain⟨m,r2,e2,b2,LR⟩:=hX r1 3 (by decide) (by decide);have jl:Fx [.int r1.1,.int r1.2] [.int 3]=some (.int m,rD r2):=e2;have s1:=bX 1 n;have s2:=bX 1 m;have em:=Jv (z:=1+n) (p:=1+m) (by omega) (lt_of_lt_of_le (show(1+m).natAbs<2^20 by omega) (pow_le_pow_right (by decide) (by decide)));refine⟨.rm (qD (((1+n:Int):Rat)/((1+m:Int):Rat))) [some (.own (rD r2))],?_,((((1+n:Int):Rat)/((1+m:Int):Rat)),r2),_,rfl,rfl,mm (by omega) (by omega) (by omega),IX (by omega) (by omega)⟩;generalize qD (((1+n:Int):Rat)/((1+m:Int):Rat))=dq at *;simp![kA,jl,s1,s2,em]
theorem mH(n:Nat):jt 0 n=(List.range n).map λi:Nat=>Dat.int (i:Int):=by
 unfold jt;exact List.map_congr_left λi _=>by rw[Int.zero_add]
theorem zip_rows(r q:List Int):me (λ_=>some [bH r,bH q]) []=some ((r.zip q).map λp=>.tuple [.int p.1,.int p.2]):=by
 show some (dP (r.map .int) (q.map .int))=_;rw[tm]
theorem Py{c:Int}(b:Int)(hc:c.natAbs<=2):iM (.int c) (.int b)=some (.int (c*b)):=by
 have h:c=-2\/c=-1\/c=0\/c=1\/c=2:=by omega
 exact mulL b (by rcases h with e|e|e|e|e<;>(rw[e];decide)) (by rcases h with e|e|e|e|e<;>(rw[e];decide))
theorem Bm(f:Int->Int->Int)(r q:List Int):zipWith f r q=(r.zip q).map λp=>f p.1 p.2:=by
 rw[List.zip,List.map_zipWith]
abbrev UT (F:List Dat->List Dat->Option (Dat×List Dat)):Prop:=∀(r:R) (n:Nat),1<=n->n<=3->∃(N B:List (List Int)) (r':R),F (rD r) [.int (n:Int)]=some (.list [cv N,cv B],rD r')/\FM.Mt n 4 N/\FM.Mt n 4 B/\FM.Turn n (FM.bO N) (FM.bO B)
theorem R9(T:TX P K mg){Fx:List Dat->List Dat->Option (Dat×List Dat)}(bN:eI P w K mg base 41 "_law_next" ["pot","many"] 2 Fx)(hX:tf Fx)(U:FnAt K mg "_law_turn" (top 49) ["pot","many"]):
  ∃F,eI P w K mg base 42 "_law_turn" ["pot","many"] 2 F/\UT F:=by
 refine⟨_,l6 ["pot","many","new","back","turn","k","j","by"] U λnd _ _ _ _ _ _ _ hr=>
  (ah (DR 2 nd rfl (B2 (tn:=["k"]) (fv:=["many"]) (js:=[1]) "k" rfl (λ_=>rfl) (λ_=>rfl) (by decide +kernel) (by decide +kernel) rfl (by decide +kernel) (by decide +kernel) (by decide +kernel) rfl
   (λx hx=>by((have dF:x="many":=(by simpa using hx));(rcases dF with rfl<;>exact⟨_,rfl⟩)))
   (λp hp=>by((have cV:p=(("many" : Str),(1:Nat)):=(by simpa using hp));(rcases cV with rfl<;>exact⟨rfl,.inr (.inl rfl),.inl rfl,λz=>by cases z⟩)))) (i8 T.range (a9 (a7 1) ag)) (λ_ _ _ _=>(aA 0 (show(["k","many"]:List Str).Nodup by decide +kernel))) (λ_ _ _ _=>bV) (λ_ _ _ _=>(cS (gT rfl (cY (tn:=["j"]) (fv:=["k"]) (js:=[0]) rfl (by decide +kernel) (by decide +kernel) rfl (by decide +kernel) (by decide +kernel) rfl
   (λx hx=>by((have dF:x="k":=(by simpa using hx));(rcases dF with rfl<;>exact⟨_,rfl⟩)))
   (λp hp=>by((have cV:p=(("k" : Str),(0:Nat)):=(by simpa using hp));(rcases cV with rfl<;>exact⟨rfl,.inr (.inl rfl),.inl rfl,λz=>by cases z⟩)))) (i8 T.range (a9 (a7 1) ag)) (λ_ _ _ _=>(aA 0 (show(["j","k"]:List Str).Nodup by decide +kernel))) (λ_ _ _ _=>bV) (λ_ _ _ _=>(mI T.int (a9 (iH hr (a7 1) (a7 0)) ag (hs:=jo)))) (cD rfl)))) (cD rfl))
  (ah (DP 3 nd rfl (iS (N':=["row"])) (pd (a7 2)) (λ_ _ _ _=>(aA 0 (show(["row"]:List Str).Nodup by decide +kernel))) (λ_ _ _ _=>bV) (λ_ _ _ _=>(J5 (nq T.list (a9 (a7 0) ag)))) (cD rfl))
  (ah (xl PassesOwn.never rfl (sT T.range (ay (bA 0 bN hr (ay (az ae) aK)) aK (hst:=aV))) (aA 4 nd)
  (ah (eY 5 nd (bA 0 bN hr (ay (az (a7 1)) aK)))
  (ah (eY 6 nd (bA 0 bN hr (ay (az (a7 1)) aK)))
  (ah (eY 7 nd (oq (bA 0 bN hr (ay (az ae) aK)) (az ae)))
  (ak (bD (cQ hr (a7 5) (a7 6)) (ah (sS 2 (gT rfl (iS (N':=["one"])) (pd (ao (a7 2) (a7 5))) (λ_ _ _ _=>(aA 0 (show(["one"]:List Str).Nodup by decide +kernel))) (λ_ _ _ _=>bV) (λ_ _ _ _=>(i9 ae (a7 0))) (cD rfl)) (a7 5))
  (ak (jC 3 nd rfl (cY (tn:=["row"]) (fv:=["k"]) (js:=[5]) rfl (by decide +kernel) (by decide +kernel) rfl (by decide +kernel) (by decide +kernel) rfl
   (λx hx=>by((have dF:x="k":=(by simpa using hx));(rcases dF with rfl<;>exact⟨_,rfl⟩)))
   (λp hp=>by((have cV:p=(("k" : Str),(5:Nat)):=(by simpa using hp));(rcases cV with rfl<;>exact⟨rfl,.inr (.inl rfl),.inl rfl,λz=>by cases z⟩)))) (a7 3) (λ_ _ _ _=>(aA 0 (show(["row","k"]:List Str).Nodup by decide +kernel))) (λ_ _ _ _=>bV) (λ_ _ _ _=>(iJ (iJ (fY (a7 0) gL (gK (a7 1))) (jG (a9 (i9 ae (ao (a7 0) (a7 1))) ag (hs:=bF)))) (fY (a7 0) (gK (cW (a7 1) ae)) gL))) (cD rfl)))) (ah (sS 2 (gT rfl (cY (tn:=["one","more"]) (fv:=["by"]) (js:=[7]) rfl (by decide +kernel) (by decide +kernel) rfl (by decide +kernel) (by decide +kernel) rfl
   (λx hx=>by((have dF:x="by":=(by simpa using hx));(rcases dF with rfl<;>exact⟨_,rfl⟩)))
   (λp hp=>by((have cV:p=(("by" : Str),(7:Nat)):=(by simpa using hp));(rcases cV with rfl<;>exact⟨rfl,.inr (.inl rfl),.inl rfl,λz=>by cases z⟩)))) (kH T.zip (a9 (ao (a7 2) (a7 5)) (a9 (ao (a7 2) (a7 6)) ag (hs:=b9)) (hs:=b9))) (λ_ _ _ _=>(fm (n:=2) rfl (aX (aA 0 (show(["one","more","by"]:List Str).Nodup by decide +kernel)) (aX (aA 1 (show(["one","more","by"]:List Str).Nodup by decide +kernel)) cK)))) (λ_ _ _ _=>bV) (λ_ _ _ _=>(cW (a7 0) (bQ (a7 2) (a7 1)))) (qm rfl rfl)) (a7 5))
  (ak (jC 3 nd rfl (cY (tn:=["row"]) (fv:=["k","j","by"]) (js:=[5,6,7]) rfl (by decide +kernel) (by decide +kernel) rfl (by decide +kernel) (by decide +kernel) rfl
   (λx hx=>by((have dF:x="k"\/x="j"\/x="by":=(by simpa using hx));(rcases dF with rfl|rfl|rfl<;>exact⟨_,rfl⟩)))
   (λp hp=>by((have cV:p=(("k" : Str),(5:Nat))\/p=(("j" : Str),(6:Nat))\/p=(("by" : Str),(7:Nat)):=(by simpa using hp));(rcases cV with rfl|rfl|rfl<;>exact⟨rfl,.inr (.inl rfl),.inl rfl,λz=>by cases z⟩)))) (a7 3) (λ_ _ _ _=>(aA 0 (show(["row","k","j","by"]:List Str).Nodup by decide +kernel))) (λ_ _ _ _=>bV) (λ_ _ _ _=>(iJ (iJ (fY (a7 0) gL (gK (a7 2))) (jG (a9 (i9 (ao (a7 0) (a7 2)) (bQ (a7 3) (ao (a7 0) (a7 1)))) ag (hs:=bF)))) (fY (a7 0) (gK (cW (a7 2) ae)) gL))) (cD rfl))))))))))
  (ak (m6 [2] (az (jG (a9 (a7 2) (a9 (a7 3) ag))))))))),?_⟩
 intro r n h1 h3;have z2:2<=sizeLine:=sz (by decide);have zn:n<sizeLine:=lt_of_lt_of_le (show n<1000 by omega) (sz (by decide));have eR:iF [.int (n:Int)]=some ((List.range n).map λi:Nat=>Dat.int (i:Int)):=by rw[<- mH];exact nR n (by omega)
 refine UH (wp_runM (λa:List (List Int)×List (List Int)×R=>.list [cv a.1,cv a.2.1]) (λa=>rD a.2.2) (λa=>FM.Mt n 4 a.1/\FM.Mt n 4 a.2.1/\FM.Turn n (FM.bO a.1) (FM.bO a.2.1)) ?_);show WP (cN _ _ [some (.own (rD r)),~~~.int (n:Int),none,none,none,none,none,none]) _;refine wp_seq (Γ1:=[some (.own (rD r)),~~~.int (n:Int),some (.own ((FM.lz n).map bH)),none,none,none,none,none]) (Pa (lD (kQ rfl eR) (by rw[length_map,length_range];exact zn) ?_)) ?_
 ·unfold FM.lz;rw[map_map];refine de (List.range n) λk hk=>⟨[(0,.int (k:Int))],rfl,?_⟩;refine qY (kQ rfl eR) (by rw[length_map,length_range];exact zn) ?_;show bT _ _ _ _ _=some (((List.range n).map λj=>if k=j then(1:Int)else 0).map Dat.int);rw[map_map];refine de (List.range n) λj hj=>⟨[(0,.int (j:Int))],rfl,?_⟩;have e:=cG (k:Int) (j:Int);have e2:intD [.bool (decide ((k:Int)=(j:Int)))]=some (.int (if k=j then 1 else 0)):=by
   by_cases h:k=j
   ·rw[decide_eq_true (by rw[h]),if_pos h];rfl
   ·rw[decide_eq_false (by omega),if_neg h];rfl
  show _=some (Dat.int (if k=j then 1 else 0));simp![e,e2]
 have zr:∀r:List Int,r.length<=3->r.length<sizeLine:=λr h=>lt_of_lt_of_le (show r.length<1000 by omega) (sz (by decide));have hI:=FM.SF n;refine wp_seq (Γ1:=[some (.own (rD r)),~~~.int (n:Int),some (.own ((FM.lz n).map bH)),~~~(cv (FM.lz n)),none,none,none,none]) (IP (K9 (ds:=(FM.lz n).map bH) rfl (by rw[length_map,hI.len];exact zn) (de (FM.lz n) λr hr=>⟨[(0,bH r)],rfl,?_⟩))) ?_
 ·have e1:sj [bH r]=some (r.map .int):=rfl;have e2:=tB r;show JR _ _=some (Dat.list (r.map .int));generalize bH r=dr at *;generalize r.map Dat.int=ds at *;simp![JR,e1,e2]
 obtain⟨t5,r1,e5,b5⟩:=hX r 5 (by decide) (by decide);have HN:Fx [.int r.1,.int r.2] [.int 5]=some (.int t5,rD r1):=e5;obtain⟨t,rfl⟩:∃t:Nat,t5=(t:Int):=⟨t5.toNat,by omega⟩;have eT:iF [.int (t:Int)]=some ((List.range t).map λi:Nat=>Dat.int (i:Int)):=by rw[<- mH];exact nR t (by omega)
 refine wp_seqx _ (AB (enc:=λi:Nat=>Dat.int (i:Int)) (l:=List.range t) (Γ1:=[some (.own (rD r1)),~~~.int (n:Int),some (.own ((FM.lz n).map bH)),~~~(cv (FM.lz n)),none,none,none,none])
   (λl Γ=>∃N B r x4 x5 x6 x7,Γ=[some (.own (rD r)),~~~.int (n:Int),some (.own (N.map bH)),~~~(cv B),x4,x5,x6,x7]/\l.length<=4/\FM.Mt n (4-l.length) N/\FM.Mt n (4-l.length) B/\FM.Turn n (FM.bO N) (FM.bO B)) (Am (by simp![HN]) eT) ⟨_,_,_,_,_,_,_,rfl,by rw[length_range];omega,?_,?_,FM.Mf n⟩ ?_) ?_
 ·exact FM.GH hI (by omega)
 ·exact FM.GH hI (by omega)
 ·rintro x l Γ ⟨N,B,r,x4,x5,x6,x7,rfl,hl,hN,hB,hT⟩;rw[length_cons]at hl hN hB;refine⟨[(4,.int (x:Int))],rfl,?_⟩;dsimp!;have Ug:(0:Int)<n:=by omega
  obtain⟨k',r2,ek,bk⟩:=hX r (n:Int) Ug (by omega);obtain⟨k,rfl⟩:∃k:Nat,k'=(k:Int):=⟨k'.toNat,by omega⟩;have YB:Fx [.int r.1,.int r.2] [.int (n:Int)]=some (.int (k:Int),rD r2):=ek;obtain⟨j',r3,ej,bj⟩:=hX r2 (n:Int) Ug (by omega);obtain⟨j,rfl⟩:∃j:Nat,j'=(j:Int):=⟨j'.toNat,by omega⟩;have YC:Fx [.int r2.1,.int r2.2] [.int (n:Int)]=some (.int (j:Int),rD r3):=ej;obtain⟨c',r4,ec,bc⟩:=hX r3 5 (by decide) (by decide);have YF:Fx [.int r3.1,.int r3.2] [.int 5]=some (.int c',rD r4):=ec;have es:=cM c' 2;have hk:k<n:=by omega
  have hj:j<n:=by omega
  have hc:(c'-2).natAbs<=2:=by omega
  generalize c'-2=c at es hc;have dm:∀M:List (List Int),cv M=cv M:=λ_=>rfl;refine fA (Γ1:=[some (.own (rD r2)),~~~.int (n:Int),some (.own (N.map bH)),~~~(cv B),~~~.int (x:Int),~~~.int (k:Int),x6,x7]) (by simp![YB]) ?_;refine fA (Γ1:=[some (.own (rD r3)),~~~.int (n:Int),some (.own (N.map bH)),~~~(cv B),~~~.int (x:Int),~~~.int (k:Int),~~~.int (j:Int),x7]) (by simp![YC]) ?_;refine fA (Γ1:=[some (.own (rD r4)),~~~.int (n:Int),some (.own (N.map bH)),~~~(cv B),~~~.int (x:Int),~~~.int (k:Int),~~~.int (j:Int),~~~.int c]) (by simp![YF,es]) ?_;have eq:=cG (k:Int) (j:Int);have lN:(N.map bH).length=n:=by rw[length_map,hN.len]
  have CJ:(N.map bH)[k]?=some (bH (N.getD k [])):=by
   rw[getElem?_map,getD_eq_getElem?_getD,getElem?_eq_getElem (by rw[hN.len];exact hk)];rfl
  have Y5:(N.map bH)[j]?=some (bH (N.getD j [])):=by
   rw[getElem?_map,getD_eq_getElem?_getD,getElem?_eq_getElem (by rw[hN.len];exact hj)];rfl
  have h4:4-l.length=4-(l.length+1)+1:=by omega
  by_cases UN:k=j
  ·rw[decide_eq_true (by rw[UN])]at eq;refine Hy (by simp![eq]) ?_;refine fA (Γ1:=[some (.own (rD r4)),~~~.int (n:Int),some (.own ((FM.qM N k).map bH)),~~~(cv B),~~~.int (x:Int),~~~.int (k:Int),~~~.int (j:Int),~~~.int c]) ?_ ?_
   ·have hs:(FM.qM N k).map bH=(N.map bH).set k (.list (((N.getD k []).map λa=>0-a).map .int)):=by
     unfold FM.qM;rw[List.map_set];rfl
    rw[hs];refine xi (k:=(k:Int)) (lD (ds:=(N.getD k []).map .int) ?_ ?_ ?_) rfl rfl (tB _) (wm (by rw[lN];exact hk))
    ·have e1:bf (.list (N.map bH)) (.int (k:Int))=some (bH (N.getD k [])):=gE CJ;have e2:dE (bH (N.getD k []))=some ((N.getD k []).map .int):=rfl;generalize N.map bH=dN at *;generalize bH (N.getD k [])=dk at *;generalize cv B=dB at *;dsimp![e1];exact e2
    ·rw[length_map,hN.row _ (hN.get hk)];exact zn
    ·rw[map_map];refine de _ λa _=>⟨[(0,.int a)],rfl,?_⟩;have e1:=cM 0 a;show _=some (Dat.int (0-a));simp![e1]
   refine d9 (aj:=[some (.own (rD r4)),~~~.int (n:Int),some (.own ((FM.qM N k).map bH)),~~~(cv (FM.E6 B k)),~~~.int (x:Int),~~~.int (k:Int),~~~.int (j:Int),~~~.int c]) ?_ ⟨_,_,_,_,_,_,_,rfl,by omega,?_,?_,FM.IK hN hB hT hk⟩
   ·refine oX (mW (d:=cv B) (ds:=B.map bH) rfl rfl (by rw[length_map,hB.len];exact zn) ?_);show _=some ((B.map λr=>FM.setAt r k (0-r.getD k 0)).map bH);rw[map_map];refine de _ λb hb=>⟨[(0,bH b)],rfl,?_⟩;have lb:=hB.row b hb;have e1:=DG (ds:=b.map .int) (m:=k);have e2:bf (.list (b.map .int)) (.int (k:Int))=some (.int (b.getD k 0)):=gE (by rw[getElem?_map,getD_eq_getElem?_getD,getElem?_eq_getElem (by rw[lb];exact hk)];rfl);have e3:=cM 0 (b.getD k 0);have e4:=bX (k:Int) 1;have e5:=BX (ds:=b.map .int) (m:=k+1);rw[Int.natCast_add,Int.natCast_one]at e5;have e6:=nF (xs:=(b.map .int).take k) (ys:=[.int (0-b.getD k 0)]) (le_trans (show _<=1000 by rw[length_take,length_map,lb,length_singleton];omega) (sz (by decide)));have e7:=nF (xs:=(b.map .int).take k++[.int (0-b.getD k 0)]) (ys:=(b.map .int).drop (k+1)) (le_trans (show _<=1000 by rw[length_append,length_take,length_map,lb,length_singleton,length_drop,length_map,lb];omega) (sz (by decide)));have e8:bH (FM.setAt b k (0-b.getD k 0))=.list ((b.map .int).take k++[.int (0-b.getD k 0)]++(b.map .int).drop (k+1)):=by
     unfold FM.setAt bH;rw[map_append,map_append,map_take,map_drop];rfl
    show _=some (bH (FM.setAt b k (0-b.getD k 0)));rw[e8];have e9:bH b=.list (b.map .int):=rfl;rw[e9];generalize (Dat.list ((b.map Dat.int).take k++[.int (0-b.getD k 0)]++(b.map .int).drop (k+1)))=d1 at *;generalize (b.map Dat.int).take k++[.int (0-b.getD k 0)]=d2 at *;generalize (b.map Dat.int).take k=d3 at *;generalize (b.map Dat.int).drop (k+1)=d4 at *;generalize Dat.list (b.map Dat.int)=d5 at *;dsimp![lH,jW,jV,rA,e1,e2,e3,e4,e5,e6,e7,sz (n:=1) (by decide)]
   ·rw[h4];exact FM.Na hN hk
   ·rw[h4];exact FM.Nb hB hk
  ·rw[decide_eq_false (by omega)]at eq;refine Hz (by simp![eq]) ?_;refine fA (Γ1:=[some (.own (rD r4)),~~~.int (n:Int),some (.own ((FM.rB N k j c).map bH)),~~~(cv B),~~~.int (x:Int),~~~.int (k:Int),~~~.int (j:Int),~~~.int c]) ?_ ?_
   ·have hs:(FM.rB N k j c).map bH=(N.map bH).set k (.list ((zipWith (λa b=>a+c*b) (N.getD k []) (N.getD j [])).map .int)):=by
     unfold FM.rB;rw[List.map_set];rfl
    rw[hs];have rk:=hN.row _ (hN.get hk);have rj:=hN.row _ (hN.get hj);refine xi (k:=(k:Int)) (lD (ds:=((N.getD k []).zip (N.getD j [])).map λp=>.tuple [.int p.1,.int p.2]) ?_ ?_ ?_) rfl rfl (tB _) (wm (by rw[lN];exact hk))
    ·have e1:bf (.list (N.map bH)) (.int (k:Int))=some (bH (N.getD k [])):=gE CJ;have e2:bf (.list (N.map bH)) (.int (j:Int))=some (bH (N.getD j [])):=gE Y5;have e3:me (λ_=>some [bH (N.getD k []),bH (N.getD j [])]) []=some (((N.getD k []).zip (N.getD j [])).map λp=>.tuple [.int p.1,.int p.2]):=zip_rows _ _;generalize N.map bH=dN at *;generalize bH (N.getD k [])=dk at *;generalize bH (N.getD j [])=dj at *;generalize cv B=dB at *;rw[<- e3];unfold me;dsimp![e1,e2]
    ·rw[length_map,length_zip,rk,rj,min_self];exact zn
    ·rw[Bm,map_map];refine de _ λp _=>⟨[(0,.int p.1),(1,.int p.2)],rfl,?_⟩;have e1:=Py p.2 hc;have e2:=bX p.1 (c*p.2);show _=some (Dat.int (p.1+c*p.2));simp![e1,e2]
   refine d9 (aj:=[some (.own (rD r4)),~~~.int (n:Int),some (.own ((FM.rB N k j c).map bH)),~~~(cv (FM.EC B k j c)),~~~.int (x:Int),~~~.int (k:Int),~~~.int (j:Int),~~~.int c]) ?_ ⟨_,_,_,_,_,_,_,rfl,by omega,?_,?_,FM.IL hN hB hT hk hj UN c⟩
   ·refine oX (mW (d:=cv B) (ds:=B.map bH) rfl rfl (by rw[length_map,hB.len];exact zn) ?_);show _=some ((B.map λr=>FM.setAt r j (r.getD j 0-c*r.getD k 0)).map bH);rw[map_map];refine de _ λb hb=>⟨[(0,bH b)],rfl,?_⟩;have lb:=hB.row b hb;have e1:=DG (ds:=b.map .int) (m:=j);have gx:∀i,i<n->bf (.list (b.map .int)) (.int (i:Int))=some (.int (b.getD i 0)):=λi hi=>gE (by rw[getElem?_map,getD_eq_getElem?_getD,getElem?_eq_getElem (by rw[lb];exact hi)];rfl);have e2:=gx k hk;have YN:=gx j hj;have em:=Py (b.getD k 0) hc;have e3:=cM (b.getD j 0) (c*b.getD k 0);have e4:=bX (j:Int) 1;have e5:=BX (ds:=b.map .int) (m:=j+1);rw[Int.natCast_add,Int.natCast_one]at e5;generalize hv:b.getD j 0-c*b.getD k 0=v at *;have e6:=nF (xs:=(b.map .int).take j) (ys:=[.int v]) (le_trans (show _<=1000 by rw[length_take,length_map,lb,length_singleton];omega) (sz (by decide)));have e7:=nF (xs:=(b.map .int).take j++[.int v]) (ys:=(b.map .int).drop (j+1)) (le_trans (show _<=1000 by rw[length_append,length_take,length_map,lb,length_singleton,length_drop,length_map,lb];omega) (sz (by decide)));have e8:bH (FM.setAt b j v)=.list ((b.map .int).take j++[.int v]++(b.map .int).drop (j+1)):=by
     unfold FM.setAt bH;rw[map_append,map_append,map_take,map_drop];rfl
    show _=some (bH (FM.setAt b j (b.getD j 0-c*b.getD k 0)));rw[hv,e8];have e9:bH b=.list (b.map .int):=rfl;rw[e9];generalize (Dat.list ((b.map Dat.int).take j++[.int v]++(b.map .int).drop (j+1)))=d1 at *;generalize (b.map Dat.int).take j++[.int v]=d2 at *;generalize (b.map Dat.int).take j=d3 at *;generalize (b.map Dat.int).drop (j+1)=d4 at *;generalize Dat.list (b.map Dat.int)=d5 at *;dsimp![lH,jW,jV,rA,e1,e2,YN,em,e3,e4,e5,e6,e7,sz (n:=1) (by decide)]
   ·rw[h4];exact FM.Nc hN hk hj hc
   ·rw[h4];exact FM.Nf hB hk hj hc
 ·rintro Γ ⟨N,B,r,x4,x5,x6,x7,rfl,hl,hN,hB,hT⟩;refine⟨.rm (.list [cv N,cv B]) [some (.own (rD r)),~~~.int (n:Int),~~~(cv N),~~~(cv B),x4,x5,x6,x7],?_,(N,B,r),_,rfl,rfl,hN,hB,hT⟩;have e:cv N=.list (N.map bH):=rfl;rw[e];generalize cv B=dB at *;simp![f7,nZ,z2]
def Iw (n:Nat) (g:FM.En):Prop:=∀s v,g=some (s,v)->SR n v
def bP (b:FM.En×FM.En):Dat:=.list [aP b.1,aP b.2]
structure ij (b:FM.En×FM.En):Prop where
 lo:Iw 70 b.1
 hi:Iw 70 b.2
 ne:∃t,FM.In b t
theorem AO(n:Nat):Iw n none:=λ_ _ e=>by cases e
variable {v:Rat}
theorem pO{s:Bool}(h:SR n v):Iw n (some (s,v)):=λ_ _ e=>by cases e;exact h
theorem wA(v:Rat)(b:Bool):(.tuple [qD v,.bool b]:Dat)=aP (some (!b,v)):=by cases b<;>rfl
theorem T9{l g:FM.En}(h:ij (l,g)):ij (none,g):=⟨AO _,h.hi,let ⟨t,a⟩:=h.ne;⟨t,a.1,FM.kP⟩⟩
theorem Ta{l g:FM.En}(h:ij (l,g)):ij (l,none):=⟨h.lo,AO _,let ⟨t,a⟩:=h.ne;⟨t,FM.iX,a.2⟩⟩
theorem Tb(h:SR 62 v):ij (some (false,v),some (false,v)):=⟨pO (h.up (by decide)),pO (h.up (by decide)),v,FM.dU.mpr ⟨Rat.le_refl,λz=>by cases z⟩,FM.ia.mpr ⟨Rat.le_refl,λz=>by cases z⟩⟩
theorem Rp(h:SR 62 v)(hq:SR 4 q)(hp:0<q)(s t:Bool):ij (some (s,v),some (t,v+q)):=⟨pO (h.up (by decide)),pO ((h.add hq).up (by decide)),v+q/2,FM.dU.mpr ⟨by grind,λ_=>by grind⟩,FM.ia.mpr ⟨by grind,λ_=>by grind⟩⟩
abbrev S0 (F:List Dat->List Dat->Option (Dat×List Dat)):Prop:=∀(r:R) (n:Nat),n<=3->∃(bx:List (FM.En×FM.En)) (r':R),F (rD r) [.int (n:Int)]=some (.list (bx.map bP),rD r')/\bx.length=n/\∀b∈bx,ij b
variable {Fa:List Dat->List Dat->Option (Dat×List Dat)}
theorem T7(T:TX P K mg){Fx Ff:List Dat->List Dat->Option (Dat×List Dat)}(bN:eI P w K mg base 43 "_law_next" ["pot","many"] 2 Fx)(hX:tf Fx)(RT:eI P w K mg base 43 "_law_far" ["pot"] 1 Ff)(hF:M3 62 Ff)(nh:eI P w K mg base 43 "_law_above" ["pot"] 1 Fa)(hA:Mb Fa)(kZ:Dn P w K mg base 43 "_law_plus" ["a","b"] 2 iW)(U:FnAt K mg "_law_box" (top 50) ["pot","many"]):
  ∃F,eI P w K mg base 44 "_law_box" ["pot","many"] 2 F/\S0 F:=by
 refine⟨_,l6 ["pot","many","box","k","kind","low","high","ends"] U λnd _ _ _ _ _ _ _ hr=>
  (ah (ju 2 nd (gm ag))
  (ah (p9 PassesOwn.never rfl T.range (a9 (a7 1) ag) (aA 3 nd) (ah (eY 4 nd (bA 0 bN hr (ay (az ae) aK)))
  (ah (eY 5 nd (bA 0 RT hr aK))
  (ah (eY 6 nd (uL kZ hr (ay (az (a7 5)) (ay (bA 0 nh hr aK) aK (hst:=aV)))))
  (ah (FY 7 nd (ay (mr (ay (az (a7 5)) (ay (G6 hr (bA 0 bN hr (ay (az ae) aK)) (az ae)) aK (hst:=jo)))) (ay (mr (ay (az (a7 6)) (ay (G6 hr (bA 0 bN hr (ay (az ae) aK)) (az ae)) aK (hst:=jo)))) aK (hst:=gP)) (hst:=gP)))
  (ah (bD (fD (gC (cQ hr (a7 4) ae) (gS (cQ hr (a7 4) ae)))) (ak (ju 7 nd (gm (a9 (c9 (k:=0) (a9 (a7 5) (a9 iI ag))) (a9 (c9 (k:=0) (a9 (a7 5) (a9 iI ag))) ag (hs:=gP)) (hs:=gP))))) ba)
  (ah (bD (fD (gC (cQ hr (a7 4) ae) (gS (cQ hr (a7 4) ae)))) (ak (lZ 7 (az bU))) ba)
  (ah (bD (fD (gC (cQ hr (a7 4) ae) (gS (cQ hr (a7 4) ae)))) (ak (lZ 7 (az bU))) ba)
  (ak (zh [7] (jj 2 (a7 7))))))))))))
  (ak (m6 [2] (az (a7 2)))))),?_⟩
 intro r n h3;have z2:2<=sizeLine:=sz (by decide);have z0:0<=sizeLine:=zero_le _;have eR:iF [.int (n:Int)]=some ((List.range n).map λi:Nat=>Dat.int (i:Int)):=by rw[<- mH];exact nR n (by omega)
 refine CO (wp_runM (λa:List (FM.En×FM.En)×R=>.list (a.1.map bP)) (λa=>rD a.2) (λa=>a.1.length=n/\∀b∈a.1,ij b) ?_);show WP (cN _ _ [some (.own (rD r)),~~~.int (n:Int),none,none,none,none,none,none]) _;refine wp_seq (Γ1:=[some (.own (rD r)),~~~.int (n:Int),some (.own []),none,none,none,none,none]) (by simp![z0]) ?_;refine wp_seqx _ (Ax (enc:=λi:Nat=>Dat.int (i:Int)) (l:=List.range n) (as:=[.int (n:Int)])
   (λl Γ=>∃(bx:List (FM.En×FM.En)) (r:R) (x3 x4 x5 x6 x7:_),Γ=[some (.own (rD r)),~~~.int (n:Int),some (.own (bx.map bP)),x3,x4,x5,x6,x7]/\bx.length+l.length=n/\∀b∈bx,ij b) rfl eR ⟨[],r,_,_,_,_,_,rfl,by rw[length_range];simp,λb hb=>by simp at hb⟩ ?_) ?_
 ·rintro x l Γ ⟨bx,r,x3,x4,x5,x6,x7,rfl,hl,Ah⟩;rw[length_cons]at hl;refine⟨[(3,.int (x:Int))],rfl,?_⟩;dsimp!;obtain⟨k,r1,e1,_⟩:=hX r 10 (by decide) (by decide);have kA:Fx [.int r.1,.int r.2] [.int 10]=some (.int k,rD r1):=e1;obtain⟨lo,r2,e2,sl⟩:=hF r1;have jl:Ff [.int r1.1,.int r1.2] []=some (qD lo,rD r2):=e2;obtain⟨q,r3,e3,sq,pq⟩:=hA r2;have vi:Fa [.int r2.1,.int r2.2] []=some (qD q,rD r3):=e3;have ep:=oQ sl sq (by decide) (by decide);obtain⟨t1,r4,e4,_⟩:=hX r3 2 (by decide) (by decide);have R3:Fx [.int r3.1,.int r3.2] [.int 2]=some (.int t1,rD r4):=e4;obtain⟨t2,r5,e5,_⟩:=hX r4 2 (by decide) (by decide);have HN:Fx [.int r4.1,.int r4.2] [.int 2]=some (.int t2,rD r5):=e5;have q1:=cG t1 0;have q2:=cG t2 0;have b2:=Rp sl sq pq (!decide (t1=0)) (!decide (t2=0));have b0:=Tb sl;have d1:=wA lo (decide (t1=0));have d2:=wA (lo+q) (decide (t2=0));have d3:=wA lo true;have d4:Dat.none=aP none:=rfl;generalize (some (!decide (t1=0),lo):FM.En)=L at *;generalize (some (!decide (t2=0),lo+q):FM.En)=G at *;have d5:aP (some (!true,lo))=aP (some (false,lo)):=rfl;rw[d5]at d3;generalize (some (false,lo):FM.En)=Z at *;generalize qD lo=rn at *;generalize qD q=dq at *;generalize qD (lo+q)=t7 at *;refine fA (Γ1:=[some (.own (rD r1)),~~~.int (n:Int),some (.own (bx.map bP)),~~~.int (x:Int),~~~.int k,x5,x6,x7]) (by simp![kA]) ?_;refine fA (Γ1:=[some (.own (rD r2)),~~~.int (n:Int),some (.own (bx.map bP)),~~~.int (x:Int),~~~.int k,~~~(rn),x6,x7]) (by simp![jl]) ?_;refine fA (Γ1:=[some (.own (rD r3)),~~~.int (n:Int),some (.own (bx.map bP)),~~~.int (x:Int),~~~.int k,~~~(rn),~~~(t7),x7]) (by simp![vi,ep]) ?_;refine fA (Γ1:=[some (.own (rD r5)),~~~.int (n:Int),some (.own (bx.map bP)),~~~.int (x:Int),~~~.int k,~~~(rn),~~~(t7),some (.own [aP L,aP G])]) (N0 (Γ1:=[some (.own (rD r5)),~~~.int (n:Int),some (.own (bx.map bP)),~~~.int (x:Int),~~~.int k,~~~(rn),~~~(t7),x7]) (by
   rw[<- d1,<- d2];generalize decide (t1=0)=c1 at *;generalize decide (t2=0)=c2 at *;simp![QC,R3,HN,q1,q2,z2])) ?_
  have Pe:∀(a b:Int) (z:Option Slot),lI (bY (L3.f2 gi (aH 4) (fC (.int a)))) (bY (L3.f2 gi (aH 4) (fC (.int b)))) (bE [some (.own (rD r5)),~~~.int (n:Int),some (.own (bx.map bP)),~~~.int (x:Int),~~~.int k,~~~rn,~~~t7,z])=some (decide (k=a) || decide (k=b)):=λa b z=>by
   have w1:=cG k a;have w2:=cG k b;generalize decide (k=a)=c1 at *;generalize decide (k=b)=c2 at *;cases c1<;>simp![w1,w2,Bool.true_or,Bool.false_or]
  let I:ar->Prop:=λΓ=>∃l g,Γ=[some (.own (rD r5)),~~~.int (n:Int),some (.own (bx.map bP)),~~~.int (x:Int),~~~.int k,~~~(rn),~~~(t7),some (.own [aP l,aP g])]/\ij (l,g);refine sC I (ke (Pe 0 1 _) (λ_=>d9 (aj:=[some (.own (rD r5)),~~~.int (n:Int),some (.own (bx.map bP)),~~~.int (x:Int),~~~.int k,~~~(rn),~~~(t7),some (.own [aP Z,aP Z])]) (by simp![d3,z2]) ⟨_,_,rfl,b0⟩) λ_=>d9 rfl ⟨_,_,rfl,b2⟩) ?_;rintro Γ ⟨l1,g1,rfl,h1⟩;refine sC I (ke (Pe 2 9 _) (λ_=>d9 (aj:=[some (.own (rD r5)),~~~.int (n:Int),some (.own (bx.map bP)),~~~.int (x:Int),~~~.int k,~~~(rn),~~~(t7),some (.own [aP none,aP g1])]) (by
   have i0:lM 2 0=some 0:=rfl;rw[<- d4];generalize aP l1=y1 at *;generalize aP g1=y2 at *;dsimp![i0]) ⟨_,_,rfl,T9 h1⟩) λ_=>d9 rfl ⟨_,_,rfl,h1⟩) ?_
  rintro Γ ⟨l2,g2,rfl,h2⟩;refine sC I (ke (Pe 3 9 _) (λ_=>d9 (aj:=[some (.own (rD r5)),~~~.int (n:Int),some (.own (bx.map bP)),~~~.int (x:Int),~~~.int k,~~~(rn),~~~(t7),some (.own [aP l2,aP none])]) (by
   have i0:lM 2 1=some 1:=rfl;rw[<- d4];generalize aP l2=y1 at *;generalize aP g2=y2 at *;dsimp![i0]) ⟨_,_,rfl,Ta h2⟩) λ_=>d9 rfl ⟨_,_,rfl,h2⟩) ?_
  rintro Γ ⟨l3,g3,rfl,h3⟩;refine d9 (aj:=[some (.own (rD r5)),~~~.int (n:Int),some (.own ((bx++[(l3,g3)]).map bP)),~~~.int (x:Int),~~~.int k,~~~(rn),~~~(t7),~~~(bP (l3,g3))]) ?_ ⟨_,_,_,_,_,_,_,rfl,by rw[length_append,length_singleton];omega,λb hb=>?_⟩
  ·have zb:(bx.map bP).length<sizeLine:=lt_of_lt_of_le (show _<1000 by rw[length_map];omega) (sz (by decide));rw[map_append];have e:bP (l3,g3)=.list [aP l3,aP g3]:=rfl;show _=some (Fl.nx [some (.own (rD r5)),~~~.int (n:Int),some (.own (bx.map bP++[bP (l3,g3)])),~~~.int (x:Int),~~~.int k,~~~(rn),~~~(t7),~~~(bP (l3,g3))]);rw[e];generalize bx.map bP=fj at *;generalize aP l3=y1 at *;generalize aP g3=y2 at *;simp![f7,nZ,zb]
  ·rcases mem_append.mp hb with hb|hb
   ·exact Ah b hb
   ·rw[mem_singleton.mp hb];exact h3
 ·rintro Γ ⟨bx,r,x3,x4,x5,x6,x7,rfl,hl,Ah⟩;refine⟨.rm (.list (bx.map bP)) [some (.own (rD r)),~~~.int (n:Int),~~~.list (bx.map bP),x3,x4,x5,x6,x7],?_,(bx,r),_,rfl,rfl,by simpa using hl,Ah⟩;generalize bx.map bP=fj at *;simp![f7,nZ]
abbrev Vv (F:List Dat->List Dat->Option (Dat×List Dat)):Prop:=∀(r:R) (k:FM.Kn) (row:List Int) (b:Rat),row.length<=3->(∀a∈row,a.natAbs<=81)->SR 70 b->∃(c:Rat) (r':R),F (rD r) [.str (cB k),bH row,qD b]=some (cm (FM.eJ c k row b),rD r')/\SR 4 c/\c≠0/\(k≠.eq->0<c)
theorem K6(T:TX P K mg){Fx:List Dat->List Dat->Option (Dat×List Dat)}(bN:eI P w K mg base 43 "_law_next" ["pot","many"] 2 Fx)(hX:tf Fx)(nh:eI P w K mg base 43 "_law_above" ["pot"] 1 Fa)(hA:Mb Fa)(kY:Dn P w K mg base 43 "_law_times" ["a","b"] 2 ic)(U:FnAt K mg "_law_as_line" (top 51) ["pot","kind","parts","bound"]):
  ∃F,eI P w K mg base 44 "_law_as_line" ["pot","kind","parts","bound"] 4 F/\Vv F:=by
 refine⟨_,l6 ["pot","kind","parts","bound","by"] U λnd _ _ _ _ _ _ _ hr=>
  (ah (eY 4 nd (bA 0 nh hr aK))
  (ah (p8 (G5 (tI (qz (cQ hr (a7 1) cc)) (xo (vY hr (bA 0 bN hr (ay (az ae) aK)) (az ae))))) (ak (aL 4 nd (c9 (k:=0) (a9 (i9 ae (ao (a7 4) ae)) (a9 (ao (a7 4) ae) ag (hs:=b9)) (hs:=bF))))) ba)
  (ak (eZ (az (c9 (k:=0) (a9 (a7 1) (a9 (nr T.tuple (a9 (cS (iG rfl (cY (tn:=["part"]) (fv:=["by"]) (js:=[4]) rfl (by decide +kernel) (by decide +kernel) rfl (by decide +kernel) (by decide +kernel) rfl
   (λx hx=>by((have dF:x="by":=(by simpa using hx));(rcases dF with rfl<;>exact⟨_,rfl⟩)))
   (λp hp=>by((have cV:p=(("by" : Str),(4:Nat)):=(by simpa using hp));(rcases cV with rfl<;>exact⟨rfl,.inr (.inl rfl),.inl rfl,λz=>by cases z⟩)))) (a7 2) (λ_ _ _ _=>(aA 0 (show(["part","by"]:List Str).Nodup by decide +kernel))) (λ_ _ _ _=>bV) (λ_ _ _ _=>(aR kY hr (a9 (a7 1) (a9 (c9 (k:=0) (a9 (a7 0) (a9 ae ag))) ag (hs:=gP))))) (cD rfl))) ag)) (a9 (aR kY hr (a9 (a7 4) (a9 (a7 3) ag))) ag (hs:=aV)) (hs:=aV))))))))),?_⟩
 intro r k row b hl hb sb;have z2:2<=sizeLine:=sz (by decide);refine CO (wp_runM (λa:Rat×R=>cm (FM.eJ a.1 k row b)) (λa=>rD a.2) (λa=>SR 4 a.1/\a.1≠0/\(k≠.eq->0<a.1)) ?_);show WP (cN _ _ [some (.own (rD r)),~~~.str (cB k),~~~(bH row),~~~(qD b),none]) _;obtain⟨q,r1,e1,sq,pq⟩:=hA r;have kA:Fa [.int r.1,.int r.2] []=some (qD q,rD r1):=e1;refine wp_seq (Γ1:=[some (.own (rD r1)),~~~.str (cB k),~~~(bH row),~~~(qD b),~~~(qD q)]) (by
  generalize qD q=dq at *;generalize qD b=db at *;generalize bH row=dr at *;simp![kA]) ?_
 refine wp_seqx (λΓ=>∃(c:Rat) (r':R),Γ=[some (.own (rD r')),~~~.str (cB k),~~~(bH row),~~~(qD b),~~~(qD c)]/\SR 4 c/\c≠0/\(k≠.eq->0<c)) ?_ ?_
 ·have ek:=cU (cB k) "=";by_cases hk:k=.eq
  ·rw[decide_eq_true ((iy k).mpr hk)]at ek;obtain⟨t,r2,e2,_⟩:=hX r1 2 (by decide) (by decide);have jl:Fx [.int r1.1,.int r1.2] [.int 2]=some (.int t,rD r2):=e2;have et:=cG t 1;refine r9 (b:=decide (t=1)) (Γ1:=[some (.own (rD r2)),~~~.str (cB k),~~~(bH row),~~~(qD b),~~~(qD q)]) (by
    generalize qD q=dq at *;generalize qD b=db at *;generalize bH row=dr at *;generalize decide (t=1)=c1 at *;simp![ek,jl,et]) (λ_=>d9 (aj:=[some (.own (rD r2)),~~~.str (cB k),~~~(bH row),~~~(qD b),~~~(qD (-q))]) ?_ ⟨-q,r2,rfl,?_,by grind,λz=>absurd hk z⟩) λ_=>d9 rfl ⟨q,r2,rfl,sq,by grind,λ_=>pq⟩
   ·have i0:bf (qD q) (.int 0)=some (.int q.num):=rfl;have i1:bf (qD q) (.int 1)=some (.int (q.den:Int)):=rfl;have es:=cM 0 q.num;have eq:(.tuple [.int (0-q.num),.int (q.den:Int)]:Dat)=qD (-q):=Pw q;rw[<- eq];generalize qD q=dq at *;generalize qD b=db at *;generalize bH row=dr at *;dsimp![i0,i1,es,z2]
   ·have:=uO sq;rwa[show(0:Rat)-q=-q by grind]at this
  ·rw[decide_eq_false λz=>hk ((iy k).mp z)]at ek;refine r9 (b:=false) (Γ1:=[some (.own (rD r1)),~~~.str (cB k),~~~(bH row),~~~(qD b),~~~(qD q)]) (by
    generalize qD q=dq at *;generalize qD b=db at *;generalize bH row=dr at *;simp![ek]) (λz=>by cases z) λ_=>d9 rfl ⟨q,r1,rfl,sq,by grind,λ_=>pq⟩
 ·rintro Γ ⟨c,r2,rfl,sc,c0,cp⟩;refine⟨.rm (cm (FM.eJ c k row b)) [some (.own (rD r2)),~~~.str (cB k),~~~(bH row),~~~(qD b),~~~(qD c)],?_,(c,r2),_,rfl,rfl,sc,c0,cp⟩;refine Mx (ML (Mh rfl (Kc (LH (mW (d:=bH row) (ds:=row.map .int) rfl rfl (by rw[length_map];exact lt_of_lt_of_le (show row.length<1000 by omega) (sz (by decide))) (de (dec:=λa:Int=>qD (c*(a:Rat))) row λa ha=>⟨[(0,.int a)],rfl,?_⟩))) ?_) ?_))
  ·have eq:=Ga a;have em:=oP sc (qq (b:=7) (z:=a) (by decide) (by have:=hb a ha;omega)) (by decide) (by decide);generalize qD (c*(a:Rat))=d1 at *;generalize qD c=dc at *;generalize qD (a:Rat)=da at *;simp![eq,em,z2]
  ·show some (Dat.tuple (row.map λa:Int=>qD (c*(a:Rat))))=some (Dat.tuple ((row.map λa:Int=>c*(a:Rat)).map qD));rw[map_map];rfl
  ·have em:=oP sc sb (by decide) (by decide);show _=some (qD (c*b));generalize qD (c*b)=d1 at *;generalize qD c=dc at *;generalize qD b=db at *;generalize bH row=dr at *;simp![em]
def bg (t:FM.Tl):Dat:=.list [cm t.1,.int (t.2.1:Int),.int t.2.2]
structure y9 (n d:Nat) (o:FM.Ol):Prop where
 len:o.2.1.length=n
 parts:∀q∈o.2.1,SR 15 q
 bd:SR d o.2.2
theorem wc{c:Rat}{k:FM.Kn}{row:List Int}(hr:row.length=n)(hb:∀a∈row,a.natAbs<=81)(sc:SR 4 c)(sv:SR 70 v):y9 n 74 (FM.eJ c k row v):=⟨by show(row.map _).length=n;rw[length_map,hr],λq hq=>by
 obtain⟨a,ha,rfl⟩:=mem_map.mp hq;exact(sc.mul (qq (b:=7) (by decide) (by have:=hb a ha;omega))).up (by decide),(sc.mul sv).up (by decide)⟩
theorem CV{α:Type}(g:α->Dat):∀(l:List α) (s:Nat),iA s (l.map g)=(l.zipIdx s).map λp=>.tuple [.int (p.2:Int),g p.1]
 |[],_=>rfl
 |a::l,s=>by
  rw[List.zipIdx_cons,map_cons,map_cons,<- CV g l (s+1)];rfl
variable {bx:List (FM.En×FM.En)}
theorem Aj{ts us:List FM.Tl}(hs:∀t∈ts,t∈us)(h:FM.RL bx ts k):FM.RL bx us k:=by
 rcases h with⟨t,ht,e⟩|⟨h1,h2⟩
 ·exact .inl ⟨t,hs t ht,e⟩
 ·exact .inr ⟨λz=>let ⟨t,ht,e⟩:=h1 z;⟨t,hs t ht,e⟩,λz=>let ⟨t,ht,e⟩:=h2 z;⟨t,hs t ht,e⟩⟩
theorem U1(s:Bool):bf (.list [.str "<",.str "<="]) (.int (if s=true then 0 else 1))=some (.str (cB (FM.iN s))):=by cases s<;>rfl
theorem CA(s:Bool):intD [.bool (!s)]=some (.int (if s=true then 0 else 1)):=by cases s<;>rfl
abbrev Vt (F:List Dat->List Dat->Option (Dat×List Dat)):Prop:=∀(r:R) (n:Nat) (N:List (List Int)) (bx:List (FM.En×FM.En)),n<=3->FM.Mt n 4 N->bx.length=n->(∀b∈bx,ij b)->∃(ts:List FM.Tl) (r':R),F (rD r) [cv N,.list (bx.map bP)]=some (.list (ts.map bg),rD r')/\ts.length<=2*n/\FM.Bf n n N bx ts/\∀t∈ts,y9 n 74 t.1
theorem Eu(T:TX P K mg){Fx:List Dat->List Dat->Option (Dat×List Dat)}(bN:eI P w K mg base 44 "_law_next" ["pot","many"] 2 Fx)(hX:tf Fx)(pT:eI P w K mg base 44 "_law_as_line" ["pot","kind","parts","bound"] 4 Fa)(hA:Vv Fa)(U:FnAt K mg "_law_box_lines" (top 52) ["pot","new","box"]):
  ∃F,eI P w K mg base 45 "_law_box_lines" ["pot","new","box"] 3 F/\Vt F:=by
 refine⟨_,l6 ["pot","new","box","lines","k","ends","down","number"] U λnd _ _ _ _ _ _ _ hr=>
  (ah (ju 3 nd (gm ag))
  (ah (jD PassesOwn.never rfl (nk T.enumerate (a9 (a7 2) ag)) (fm (n:=2) rfl (aX (aA 4 nd) (aX (aA 5 nd) cK)))
  (ah (jC 6 nd rfl (iS (N':=["one"])) (ao (a7 1) (a7 4)) (λ_ _ _ _=>(aA 0 (show(["one"]:List Str).Nodup by decide +kernel))) (λ_ _ _ _=>bV) (λ_ _ _ _=>(i9 ae (a7 0))) (cD rfl))
  (ak (p8 (G5 (tI (qz (lx (ao (a7 5) ae) bU)) (tI (qz (zi hr (ao (a7 5) ae) (ao (a7 5) ae))) (xo (vY hr (bA 0 bN hr (ay (az ae) aK)) (az ae)))))) (ak (nj 3 (rT (ay (bA 0 pT hr (ay (az cc) (ay (az (ao (a7 1) (a7 4))) (ay (az (ao (ao (a7 5) ae) ae)) aK (hst:=b9)) (hst:=b9)))) (ay (az (a7 4)) (ay (az ae) aK)) (hst:=aV))))) (ah (bD (lx (ao (a7 5) ae) bU) (ak (nj 3 (rT (ay (bA 0 pT hr (ay (az (ao (jG (a9 cc (a9 cc ag))) (mI T.int (a9 (ao (ao (a7 5) ae) ae) ag (hs:=b9))))) (ay (az (ao (a7 1) (a7 4))) (ay (az (ao (ao (a7 5) ae) ae)) aK (hst:=b9)) (hst:=b9)) (hst:=b9))) (ay (az (a7 4)) (ay (az ae) aK)) (hst:=aV))))) ba)
  (ak (bD (lx (ao (a7 5) ae) bU) (ah (aL 7 nd (c9 (k:=0) (a9 (i9 ae (ao (ao (ao (a7 5) ae) ae) ae)) (a9 (ao (ao (ao (a7 5) ae) ae) ae) ag (hs:=b9)) (hs:=bF))))
  (ak (nj 3 (rT (ay (bA 0 pT hr (ay (az (ao (jG (a9 cc (a9 cc ag))) (mI T.int (a9 (ao (ao (a7 5) ae) ae) ag (hs:=b9))))) (ay (az (a7 6)) (ay (az (a7 7)) aK)) (hst:=b9))) (ay (az (a7 4)) (ay (az (jF ae)) aK (hst:=vP))) (hst:=aV)))))) ba)))))))
  (ak (m6 [3] (az (a7 3)))))),?_⟩
 intro r n N bx hn hN XM Ah;have z0:0<=sizeLine:=zero_le _;have z2:2<=sizeLine:=sz (by decide);have z3:3<=sizeLine:=sz (by decide);refine CO (wp_runM (λa:List FM.Tl×R=>.list (a.1.map bg)) (λa=>rD a.2) (λa=>a.1.length<=2*n/\FM.Bf n n N bx a.1/\∀t∈a.1,y9 n 74 t.1) ?_);show WP (cN _ _ [some (.own (rD r)),~~~(cv N),~~~.list (bx.map bP),none,none,none,none,none]) _;have Y7:∀k,k<n->bf (cv N) (.int (k:Int))=some (bH (N.getD k [])):=λk hk=>gE (by
  rw[getElem?_map,getD_eq_getElem?_getD,getElem?_eq_getElem (by rw[hN.len];exact hk)];rfl)
 have Ac:iA 0 (bx.map bP)=(bx.zipIdx 0).map λp=>.tuple [.int (p.2:Int),bP p.1]:=CV bP bx 0;have iP:oF (λ_=>some [.list (bx.map bP)]) []=some (iA 0 (bx.map bP)):=rfl;generalize Dat.list (bx.map bP)=fj at *;generalize hdN:cv N=dN at *;refine wp_seq (Γ1:=[some (.own (rD r)),~~~(dN),~~~(fj),some (.own []),none,none,none,none]) (by simp![z0]) ?_;refine wp_seqx _ (AA (enc:=λp:(FM.En×FM.En)×Nat=>.tuple [.int (p.2:Int),bP p.1]) (l:=bx.zipIdx 0)
   (λl Γ=>∃(i:Nat) (ts:List FM.Tl) (r:R) (x4 x5 x6 x7:_),Γ=[some (.own (rD r)),~~~(dN),~~~(fj),some (.own (ts.map bg)),x4,x5,x6,x7]/\l=(bx.zipIdx 0).drop i/\i+l.length=n/\ts.length<=2*i/\FM.Bf n i N bx ts/\∀t∈ts,y9 n 74 t.1) (by rw[<- Ac,<- iP];rfl) ⟨0,[],r,_,_,_,_,rfl,rfl,by rw[List.length_zipIdx,XM,zero_add],le_refl _,⟨λt ht=>by simp at ht,λk hk=>absurd hk (by omega)⟩,λt ht=>by simp at ht⟩ ?_) ?_
 ·rintro⟨⟨L,G⟩,k⟩ l Γ ⟨i,ts,r,x4,x5,x6,x7,rfl,A9,q5,U7,v8,oH⟩;rw[length_cons]at q5;have hi:i<n:=by omega
  have sZ:(bx.zipIdx 0)[i]?=some ((L,G),k):=by
   have:=congrArg List.head? A9;rw[List.head?_cons,List.head?_drop]at this;exact this.symm
  have lA:l=(bx.zipIdx 0).drop (i+1):=by
   have:=congrArg tail A9;rw[List.tail_cons,List.tail_drop]at this;exact this
  rw[List.getElem?_zipIdx]at sZ;have Lq:bx[i]?=some (L,G)/\k=i:=by
   cases e:bx[i]? with
   |none=>rw[e]at sZ;cases sZ
   |some p=>
    rw[e]at sZ;have:=Option.some.inj sZ;exact⟨by rw[(Prod.mk.inj this).1],by have:=(Prod.mk.inj this).2;omega⟩
  obtain⟨Lq,rfl⟩:=Lq;have hB:ij (L,G):=Ah _ (mem_of_getElem? Lq);have Hk:bx.getD k (none,none)=(L,G):=by rw[getD_eq_getElem?_getD,Lq];rfl
  have Ee:=hN.row _ (hN.get hi);have H9:∀a∈N.getD k [],a.natAbs<=81:=λa ha=>hN.bd _ (hN.get hi) a ha;have CJ:=Y7 k hi;generalize Qf:N.getD k []=row at *;refine⟨[(4,.int (k:Int)),(5,bP (L,G))],rfl,?_⟩;dsimp!;have b0:bf (bP (L,G)) (.int 0)=some (aP L):=rfl;have b1:bf (bP (L,G)) (.int 1)=some (aP G):=rfl;have mU:=LK L G;have Qn:(row.map λa=>0-a).length=n:=by rw[length_map,Ee]
  have Ud:∀a∈row.map λa=>0-a,a.natAbs<=81:=λa ha=>by
   obtain⟨c,hc,rfl⟩:=mem_map.mp ha;have:=H9 c hc;omega
  generalize bP (L,G)=db at *;refine fA (Γ1:=[some (.own (rD r)),~~~(dN),~~~(fj),some (.own (ts.map bg)),~~~.int (k:Int),~~~(db),~~~(bH (row.map λa=>0-a)),x7]) (oX (mW (d:=bH row) (ds:=row.map .int) (by dsimp![CJ]) rfl (by rw[length_map,Ee];exact lt_of_lt_of_le (show n<1000 by omega) (sz (by decide))) (by
   rw[map_map];refine de _ λa _=>⟨[(0,.int a)],rfl,?_⟩;have e1:=cM 0 a;show _=some (Dat.int (0-a));simp![e1]))) ?_
  have BL:∀us:List FM.Tl,us.length<=100->(us.map bg).length<sizeLine:=λus h=>lt_of_lt_of_le (show _<1000 by rw[length_map];omega) (sz (by decide));have mapA:∀(us:List FM.Tl) (t:FM.Tl),(us++[t]).map bg=us.map bg++[bg t]:=λus t=>by rw[map_append];rfl
  generalize XG:bH (row.map λa=>0-a)=oN at *;generalize Um:bH row=R4 at *

  have two:∀(r:R) (z7:Option Slot),∃aj,cN (iE (bY (L3.f2 j1 (L3.f2 bf (aH 5) (fC (.int 1))) (fC .none))) (rQ 3 (Ao (fN (tW 0 4 Fa (fN (fM (L3.f2 bf (o7 (aO (fC (.str "<")) (aO (fC (.str "<=")) bS))) (d8 intD (aO (L3.f2 bf (L3.f2 bf (aH 5) (fC (.int 1))) (fC (.int 1))) bS)))) (fN (fM (L3.f2 bf (aH 1) (aH 4))) (fN (fM (L3.f2 bf (L3.f2 bf (aH 5) (fC (.int 1))) (fC (.int 0)))) pK)))) (fN (fM (aH 4)) (fN (fM (fC (.int 1))) pK))))) ir) (iE (bY (L3.f2 j1 (L3.f2 bf (aH 5) (fC (.int 0))) (fC .none))) (cN (gB 7 (kR (aO (L3.f2 DA (fC (.int 0)) (L3.f2 bf (L3.f2 bf (L3.f2 bf (aH 5) (fC (.int 0))) (fC (.int 0))) (fC (.int 0)))) (aO (L3.f2 bf (L3.f2 bf (L3.f2 bf (aH 5) (fC (.int 0))) (fC (.int 0))) (fC (.int 1))) bS)))) (rQ 3 (Ao (fN (tW 0 4 Fa (fN (fM (L3.f2 bf (o7 (aO (fC (.str "<")) (aO (fC (.str "<=")) bS))) (d8 intD (aO (L3.f2 bf (L3.f2 bf (aH 5) (fC (.int 0))) (fC (.int 1))) bS)))) (fN (fM (aH 6)) (fN (fM (aH 7)) pK)))) (fN (fM (aH 4)) (fN (fM (L3.f1 nW (fC (.int 1)))) pK)))))) ir) [some (.own (rD r)),~~~dN,~~~fj,some (.own (ts.map bg)),~~~.int (k:Int),~~~db,~~~oN,z7]=some (.nx aj)/\∃(i:Nat) (ts:List FM.Tl) (r:R) (x4 x5 x6 x7:_),aj=[some (.own (rD r)),~~~(dN),~~~(fj),some (.own (ts.map bg)),x4,x5,x6,x7]/\l=(bx.zipIdx 0).drop i/\i+l.length=n/\ts.length<=2*i/\FM.Bf n i N bx ts/\∀t∈ts,y9 n 74 t.1:=by
   intro r z7;refine sC (λΓ=>∃(us:List FM.Tl) (r':R),Γ=[some (.own (rD r')),~~~(dN),~~~(fj),some (.own (us.map bg)),~~~.int (k:Int),~~~(db),~~~(oN),z7]/\us.length<=ts.length+1/\(∀t∈ts,t∈us)/\(∀t∈us,FM.EX n N bx t/\y9 n 74 t.1)/\(G≠none->∃t∈us,t.2=(k,1))) ?_ ?_
   ·rcases hG:G with _|⟨s,v⟩
    ·have i1:j1 (aP G) .none=some (.bool false):=by rw[hG];rfl
     generalize aP G=dG at *;exact ke (b:=false) (by dsimp![b1,i1]) (λz=>by cases z) λ_=>d9 rfl ⟨ts,r,rfl,by omega,λt ht=>ht,λt ht=>⟨v8.all t ht,oH t ht⟩,λz=>absurd rfl z⟩
    ·have i1:j1 (aP G) .none=some (.bool true):=by rw[hG];rfl
     have g0:bf (aP G) (.int 0)=some (qD v):=by rw[hG];rfl
     have g1:bf (aP G) (.int 1)=some (.bool (!s)):=by rw[hG];rfl
     obtain⟨c,r',e,sc,c0,cp⟩:=hA r (FM.iN s) row v (by omega) H9 (hB.hi s v hG);rw[Um]at e;have e':Fa [.int r.1,.int r.2] [.str (cB (FM.iN s)),R4,qD v]=some (cm (FM.eJ c (FM.iN s) row v),rD r'):=e;have k1:=U1 s;have k2:=CA s;generalize (if s=true then(0:Int)else 1)=si at *;refine ke (b:=true) (by generalize aP G=dG at *;dsimp![b1,i1]) (λ_=>d9 (aj:=[some (.own (rD r')),~~~(dN),~~~(fj),some (.own ((ts++[(FM.eJ c (FM.iN s) row v,k,1)]).map bg)),~~~.int (k:Int),~~~(db),~~~(oN),z7]) ?_ ⟨ts++[(FM.eJ c (FM.iN s) row v,k,1)],r',rfl,by rw[length_append,length_singleton];omega,λt ht=>mem_append_left _ ht,λt ht=>?_,λ_=>⟨_,mem_append_right _ mem_cons_self,rfl⟩⟩) λz=>by cases z
     ·rw[mapA];refine sJ (Γ1:=[some (.own (rD r')),~~~(dN),~~~(fj),some (.own (ts.map bg)),~~~.int (k:Int),~~~(db),~~~(oN),z7]) rfl ?_ rfl (BL ts (by omega));have et:bg (FM.eJ c (FM.iN s) row v,k,1)=.list [cm (FM.eJ c (FM.iN s) row v),.int (k:Int),.int 1]:=rfl;rw[et];generalize cm (FM.eJ c (FM.iN s) row v)=UM at *;generalize aP G=dG at *;generalize qD v=dv at *;generalize ts.map bg=jM at *;dsimp![b1,g0,g1,k1,k2,CJ,e',z2,z3]
     ·rcases mem_append.mp ht with ht|ht
      ·exact⟨v8.all t ht,oH t ht⟩
      ·rw[mem_singleton.mp ht];exact⟨⟨hi,c,c0,cp,.inr (.inl ⟨rfl,s,v,by rw[Hk];exact hG,by rw[Qf]⟩)⟩,wc Ee H9 sc (hB.hi s v hG)⟩
   ·rintro Γ ⟨us,r1,rfl,Qb,JG,nY,h1⟩;have fin:∀(vs:List FM.Tl),(∀t∈us,t∈vs)->(∀t∈vs,FM.EX n N bx t)->(L≠none->∃t∈vs,t.2=(k,-1))->FM.Bf n (k+1) N bx vs:=λvs h2 h3 h4=>⟨h3,λj hj=>by
     by_cases ej:j=k
     ·subst ej;refine .inr ⟨λz=>?_,λz=>?_⟩
      ·rw[Hk]at z;obtain⟨t,ht,e⟩:=h1 z;exact⟨t,h2 t ht,e⟩
      ·rw[Hk]at z;exact h4 z
     ·exact Aj (λt ht=>h2 t (JG t ht)) (v8.has j (by omega))⟩
    rcases hL:L with _|⟨s,v⟩
    ·have i1:j1 (aP L) .none=some (.bool false):=by rw[hL];rfl
     refine ke (b:=false) (by generalize aP L=dL at *;dsimp![b0,i1]) (λz=>by cases z) λ_=>d9 rfl ⟨k+1,us,r1,_,_,_,_,rfl,lA,by omega,by omega,fin us (λt ht=>ht) (λt ht=>(nY t ht).1) (λz=>absurd hL z),λt ht=>(nY t ht).2⟩
    ·have i1:j1 (aP L) .none=some (.bool true):=by rw[hL];rfl
     have g0:bf (aP L) (.int 0)=some (qD v):=by rw[hL];rfl
     have g1:bf (aP L) (.int 1)=some (.bool (!s)):=by rw[hL];rfl
     have q0:bf (qD v) (.int 0)=some (.int v.num):=rfl;have q1:bf (qD v) (.int 1)=some (.int (v.den:Int)):=rfl;have es:=cM 0 v.num;have eq:(.tuple [.int (0-v.num),.int (v.den:Int)]:Dat)=qD (-v):=Pw v;have sv:SR 70 (-v):=by
      have:=uO (hB.lo s v hL);rwa[show(0:Rat)-v=-v by grind]at this
     obtain⟨c,r',e,sc,c0,cp⟩:=hA r1 (FM.iN s) (row.map λa=>0-a) (-v) (by omega) Ud sv;rw[XG]at e;have e':Fa [.int r1.1,.int r1.2] [.str (cB (FM.iN s)),oN,qD (-v)]=some (cm (FM.eJ c (FM.iN s) (row.map λa=>0-a) (-v)),rD r'):=e;have k1:=U1 s;have k2:=CA s;generalize (if s=true then(0:Int)else 1)=si at *;refine ke (b:=true) (by generalize aP L=dL at *;dsimp![b0,i1]) (λ_=>?_) λz=>by cases z
     refine fA (Γ1:=[some (.own (rD r1)),~~~(dN),~~~(fj),some (.own (us.map bg)),~~~.int (k:Int),~~~(db),~~~(oN),~~~(qD (-v))]) (by
      rw[<- eq];generalize aP L=dL at *;generalize qD v=dv at *;dsimp![b0,g0,q0,q1,es,z2]) ?_
     refine d9 (aj:=[some (.own (rD r')),~~~(dN),~~~(fj),some (.own ((us++[(FM.eJ c (FM.iN s) (row.map λa=>0-a) (-v),k,-1)]).map bg)),~~~.int (k:Int),~~~(db),~~~(oN),~~~(qD (-v))]) ?_ ⟨k+1,us++[(FM.eJ c (FM.iN s) (row.map λa=>0-a) (-v),k,-1)],r',_,_,_,_,rfl,lA,by omega,by rw[length_append,length_singleton];omega,fin _ (λt ht=>mem_append_left _ ht) (λt ht=>?_) (λ_=>⟨_,mem_append_right _ mem_cons_self,rfl⟩),λt ht=>?_⟩
     ·rw[mapA];refine sJ (Γ1:=[some (.own (rD r')),~~~(dN),~~~(fj),some (.own (us.map bg)),~~~.int (k:Int),~~~(db),~~~(oN),~~~(qD (-v))]) rfl ?_ rfl (BL us (by omega));have et:bg (FM.eJ c (FM.iN s) (row.map λa=>0-a) (-v),k,-1)=.list [cm (FM.eJ c (FM.iN s) (row.map λa=>0-a) (-v)),.int (k:Int),.int (-1)]:=rfl;rw[et];generalize cm (FM.eJ c (FM.iN s) (row.map λa=>0-a) (-v))=UM at *;generalize aP L=dL at *;generalize qD (-v)=dv at *;generalize us.map bg=jM at *;dsimp![b0,g1,k1,k2,e',z2,z3]
     ·rcases mem_append.mp ht with ht|ht
      ·exact(nY t ht).1
      ·rw[mem_singleton.mp ht];exact⟨hi,c,c0,cp,.inr (.inr ⟨rfl,s,v,by rw[Hk];exact hL,by rw[Qf]⟩)⟩
     ·rcases mem_append.mp ht with ht|ht
      ·exact(nY t ht).2
      ·rw[mem_singleton.mp ht];exact wc Qn Ud sc sv
  rcases hL:L with _|⟨s,v⟩
  ·have i1:j1 (aP L) .none=some (.bool false):=by rw[hL];rfl
   exact r9 (b:=false) (Γ1:=[some (.own (rD r)),~~~(dN),~~~(fj),some (.own (ts.map bg)),~~~.int (k:Int),~~~(db),~~~(oN),x7]) (by generalize aP L=dL at *;dsimp![b0,i1]) (λz=>by cases z) λ_=>two r _
  ·have i1:j1 (aP L) .none=some (.bool true):=by rw[hL];rfl
   by_cases Ly:L=G
   ·rw[decide_eq_true Ly]at mU;have hs:s=false:=by
     cases s with
     |false=>rfl
     |true=>
      obtain⟨t,h1,h2⟩:=hB.ne;rw[<- Ly,hL]at h1;rw[hL]at h2;have a:=(FM.dU.mp h1).2 rfl;have b:=(FM.ia.mp h2).1;grind
    subst hs;obtain⟨t,r1,e1,_⟩:=hX r 2 (by decide) (by decide);have kA:Fx [.int r.1,.int r.2] [.int 2]=some (.int t,rD r1):=e1;have et:=cG t 0;refine r9 (b:=decide (t=0)) (Γ1:=[some (.own (rD r1)),~~~(dN),~~~(fj),some (.own (ts.map bg)),~~~.int (k:Int),~~~(db),~~~(oN),x7]) (by
     generalize aP L=dL at *;generalize aP G=dG at *;generalize decide (t=0)=c1 at *;dsimp![b0,b1,i1,mU,kA,et]) (λ_=>?_) λ_=>two r1 _
    have g0:bf (aP L) (.int 0)=some (qD v):=by rw[hL];rfl
    obtain⟨c,r',e,sc,c0,cp⟩:=hA r1 .eq row v (by omega) H9 (hB.lo false v hL);rw[Um]at e;have e':Fa [.int r1.1,.int r1.2] [.str "=",R4,qD v]=some (cm (FM.eJ c .eq row v),rD r'):=e;refine d9 (aj:=[some (.own (rD r')),~~~(dN),~~~(fj),some (.own ((ts++[(FM.eJ c .eq row v,k,0)]).map bg)),~~~.int (k:Int),~~~(db),~~~(oN),x7]) ?_ ⟨k+1,ts++[(FM.eJ c .eq row v,k,0)],r',_,_,_,_,rfl,lA,by omega,by rw[length_append,length_singleton];omega,⟨λt ht=>?_,λj hj=>?_⟩,λt ht=>?_⟩
    ·rw[mapA];refine sJ (Γ1:=[some (.own (rD r')),~~~(dN),~~~(fj),some (.own (ts.map bg)),~~~.int (k:Int),~~~(db),~~~(oN),x7]) rfl ?_ rfl (BL ts (by omega));have et:bg (FM.eJ c .eq row v,k,0)=.list [cm (FM.eJ c .eq row v),.int (k:Int),.int 0]:=rfl;rw[et];generalize cm (FM.eJ c .eq row v)=UM at *;generalize aP L=dL at *;generalize qD v=dv at *;generalize ts.map bg=jM at *;dsimp![b0,g0,CJ,e',z3]
    ·rcases mem_append.mp ht with ht|ht
     ·exact v8.all t ht
     ·rw[mem_singleton.mp ht];exact⟨hi,c,c0,cp,.inl ⟨rfl,v,by rw[Hk,<- Ly,hL],by rw[Qf]⟩⟩
    ·by_cases ej:j=k
     ·subst ej;exact .inl ⟨_,mem_append_right _ mem_cons_self,rfl⟩
     ·exact Aj (λt ht=>mem_append_left _ ht) (v8.has j (by omega))
    ·rcases mem_append.mp ht with ht|ht
     ·exact oH t ht
     ·rw[mem_singleton.mp ht];exact wc Ee H9 sc (hB.lo false v hL)
   ·rw[decide_eq_false Ly]at mU;exact r9 (b:=false) (Γ1:=[some (.own (rD r)),~~~(dN),~~~(fj),some (.own (ts.map bg)),~~~.int (k:Int),~~~(db),~~~(oN),x7]) (by
     generalize aP L=dL at *;generalize aP G=dG at *;dsimp![b0,b1,i1,mU]) (λz=>by cases z) λ_=>two r _
 ·rintro Γ ⟨i,ts,r,x4,x5,x6,x7,rfl,A9,q5,U7,v8,oH⟩;have ei:i=n:=by simpa using q5
  subst ei;refine⟨.rm (.list (ts.map bg)) [some (.own (rD r)),~~~(dN),~~~(fj),~~~.list (ts.map bg),x4,x5,x6,x7],?_,(ts,r),_,rfl,rfl,U7,v8,oH⟩;generalize ts.map bg=jM at *;simp![f7,nZ]
theorem Tc(qs:List Rat):(qs.map qD).all (kqdOk 5)=true:=by
 rw[all_map,all_eq_true];exact λ_ _=>rfl
theorem Sz(t:FM.Tl):kqdOk 8 (bg t)=true:=by
 show((PyData.strOk (cB t.1.1)&&((t.1.2.1.map qD).all (kqdOk 5)&&_))&&_)=true;rw[oC,Tc];rfl
theorem Pu(ts:List FM.Tl):ix (.list (ts.map bg)) (.list [])=some (.bool (!decide (ts=[]))):=by
 have h:kqdOk 9 (.list (ts.map bg))=true:=by
  show(ts.map bg).all (kqdOk 8)=true;rw[all_map,all_eq_true];exact λx _=>Sz x
 have e:eqB (.list (ts.map bg)) (.list [])=if kqdOk 9 (.list (ts.map bg))=true/\kqdOk 9 (.list [])=true then some (kf (.list (ts.map bg)) (.list []))else none:=rfl;unfold ix;rw[e,if_pos ⟨h,rfl⟩];cases ts with
 |nil=>
  show Option.map _ (some (kf (.list []) (.list [])))=_;rw[mV rfl];rfl
 |cons t ts=>rw[oM (λz=>by cases z)];rfl
def EW (t e:FM.Tl):Prop:=t.1.1≠.eq/\∃q:Rat,0<q/\SR 4 q/\e=((.le,t.1.2.1,t.1.2.2+q),t.2.1,2)
abbrev Vc (F:List Dat->List Dat->Option (Dat×List Dat)):Prop:=∀(r:R) (n m:Nat) (ts:List FM.Tl),ts.length<=6->m<=6->(∀t∈ts,y9 n 74 t.1)->∃(ws ex:List FM.Tl) (r':R),F (rD r) [.list (ts.map bg),.int (m:Int)]=some (.list (ws.map bg),rD r')/\ws.Perm (ts++ex)/\ex.length<=m/\∀e∈ex,∃t∈ts,EW t e
theorem ins_map(ws:List FM.Tl)(k:Nat)(t:FM.Tl):zV (ws.map bg) k (bg t)=(ws.take k++t::ws.drop k).map bg:=by
 unfold zV;rw[map_append,map_cons,map_take,map_drop]
theorem K4(T:TX P K mg){Fx:List Dat->List Dat->Option (Dat×List Dat)}(bN:eI P w K mg base 43 "_law_next" ["pot","many"] 2 Fx)(hX:tf Fx)(nh:eI P w K mg base 43 "_law_above" ["pot"] 1 Fa)(hA:Mb Fa)(kZ:Dn P w K mg base 43 "_law_plus" ["a","b"] 2 iW)(U:FnAt K mg "_law_looser" (top 53) ["pot","lines","most"]):
  ∃F,eI P w K mg base 44 "_law_looser" ["pot","lines","most"] 3 F/\Vc F:=by
 refine⟨_,l6 ["pot","lines","most","found","k","kind","parts","bound","j","side","mixed_v","one"] U λnd _ _ _ _ _ _ _ hr=>
  (ah (ju 3 nd (nq T.list (a9 (a7 1) ag)))
  (ah (xl PassesOwn.never rfl (sT T.range (ay (bA 0 bN hr (ay (az (cW (a7 2) ae)) aK (hst:=bF))) aK (hst:=aV))) (aA 4 nd)
  (ak (bD (fS hr (a7 1) (jG ag)) (ah (xn (OR (az (a7 1)) (bA 0 bN hr (ay (az (dW T.len (a9 (a7 1) ag))) aK (hst:=aV)))) (rV (n:=3) rfl (aX (rV (n:=3) rfl (aX (aA 5 nd) (aX (aA 6 nd) (aX (aA 7 nd) cK)))) (aX (aA 8 nd) (aX (aA 9 nd) cK)))))
  (ak (bD (fS hr (a7 5) cc) (ak (nj 3 (rT (ay (mr (ay (az cc) (ay (az (a7 6)) (ay (uL kZ hr (ay (az (a7 7)) (ay (bA 0 nh hr aK) aK (hst:=aV)))) aK (hst:=aV))))) (ay (az (a7 8)) (ay (az ae) aK)) (hst:=gP))))) ba))) ba)))
  (ah (ju 10 nd (gm ag))
  (ah (zh [3] (gR PassesOwn.never rfl (a7 3) (aA 11 nd)
  (ak (FZ 10 (ay (bA 0 bN hr (ay (az (cW (dW T.len (a9 (a7 10) ag)) ae)) aK (hst:=bF))) (ay (az (a7 11)) aK) (hst:=aV))))))
  (ak (m6 [10] (az (a7 10)))))))),?_⟩
 intro r n m ts h6 hm oH;have z0:0<=sizeLine:=zero_le _;have z3:3<=sizeLine:=sz (by decide);refine UH (wp_runM (λa:List FM.Tl×List FM.Tl×R=>.list (a.1.map bg)) (λa=>rD a.2.2) (λa=>a.1.Perm (ts++a.2.1)/\a.2.1.length<=m/\∀e∈a.2.1,∃t∈ts,EW t e) ?_);show WP (cN _ _ [some (.own (rD r)),~~~.list (ts.map bg),~~~.int (m:Int),none,none,none,none,none,none,none,none,none]) _;have BL:∀us:List FM.Tl,us.length<=100->(us.map bg).length<sizeLine:=λus h=>lt_of_lt_of_le (show _<1000 by rw[length_map];omega) (sz (by decide));have cx:=Pu ts;have A8:j9 [.list (ts.map bg)]=some (.int (ts.length:Int)):=by show some (Dat.int ((ts.map bg).length:Int))=_;rw[length_map]
 have Xw:sj [.list (ts.map bg)]=some (ts.map bg):=rfl;have XB:∀(i:Nat) (t:FM.Tl),ts[i]?=some t->bf (.list (ts.map bg)) (.int (i:Int))=some (bg t):=λi t h=>gE (by rw[getElem?_map,h];rfl);generalize Dat.list (ts.map bg)=jM at *;refine wp_seq (Γ1:=[some (.own (rD r)),~~~(jM),~~~.int (m:Int),some (.own (ts.map bg)),none,none,none,none,none,none,none,none]) (by
  generalize ts.map bg=dl at *;simp![Xw]) ?_
 obtain⟨c',r1,e1,b1⟩:=hX r ((m:Int)+1) (by omega) (by omega);obtain⟨c,rfl⟩:∃c:Nat,c'=(c:Int):=⟨c'.toNat,by omega⟩;have kA:Fx [.int r.1,.int r.2] [.int ((m:Int)+1)]=some (.int (c:Int),rD r1):=e1;have ea:=bX (m:Int) 1;have eR:iF [.int (c:Int)]=some ((List.range c).map λi:Nat=>Dat.int (i:Int)):=by rw[<- mH];exact nR c (by omega)
 refine wp_seqx _ (AB (enc:=λi:Nat=>Dat.int (i:Int)) (l:=List.range c) (Γ1:=[some (.own (rD r1)),~~~(jM),~~~.int (m:Int),some (.own (ts.map bg)),none,none,none,none,none,none,none,none])
   (λl Γ=>∃(ex:List FM.Tl) (r:R) (x4 x5 x6 x7 x8 x9:_),Γ=[some (.own (rD r)),~~~(jM),~~~.int (m:Int),some (.own ((ts++ex).map bg)),x4,x5,x6,x7,x8,x9,none,none]/\ex.length+l.length<=m/\∀e∈ex,∃t∈ts,EW t e) (Am (by
    generalize ts.map bg=dl at *;simp![ea,kA]) eR) ⟨[],r1,_,_,_,_,_,_,by rw[append_nil],by rw[length_range,length_nil];omega,λe he=>by simp at he⟩ ?_) ?_
 ·rintro x l Γ ⟨ex,r,x4,x5,x6,x7,x8,x9,rfl,Qs,hex⟩;rw[length_cons]at Qs;refine⟨[(4,.int (x:Int))],rfl,?_⟩;dsimp!;have zf:=BL (ts++ex) (by rw[length_append];omega);generalize Qr:(ts++ex).map bg=xV at *;refine ke (b:=!decide (ts=[])) (by simp![cx,z0]) (λhb=>?_) λ_=>d9 (aj:=[some (.own (rD r)),~~~(jM),~~~.int (m:Int),some (.own xV),~~~.int (x:Int),x5,x6,x7,x8,x9,none,none]) rfl ⟨ex,r,_,_,_,_,_,_,by rw[Qr],by omega,hex⟩;have Xe:ts≠[]:=by simpa using hb
  have Ui:0<ts.length:=List.length_pos_iff.mpr Xe;obtain⟨i',r2,e2,b2⟩:=hX r (ts.length:Int) (by omega) (by omega);obtain⟨i,rfl⟩:∃i:Nat,i'=(i:Int):=⟨i'.toNat,by omega⟩;have jl:Fx [.int r.1,.int r.2] [.int (ts.length:Int)]=some (.int (i:Int),rD r2):=e2;have q5:i<ts.length:=by omega
  have sZ:ts[i]?=some ts[i]:=getElem?_eq_getElem q5;have qT:ts[i]∈ts:=getElem_mem q5;generalize ts[i]=t at sZ qT;have et:=XB i t sZ;have ho:=oH t qT;obtain⟨⟨kd,ps,b⟩,pk,sd⟩:=t;have YI:B5 3 (cR (B5 3 (cR (aName 5) (cR (aName 6) (cR (aName 7) jf)))) (cR (aName 8) (cR (aName 9) jf))) (bg ((kd,ps,b),pk,sd))=some [(5,.str (cB kd)),(6,.tuple (ps.map qD)),(7,qD b),(8,.int (pk:Int)),(9,.int sd)]:=rfl;generalize bg ((kd,ps,b),pk,sd)=dt at *;refine fA (Γ1:=[some (.own (rD r2)),~~~(jM),~~~.int (m:Int),some (.own xV),~~~.int (x:Int),~~~.str (cB kd),~~~.tuple (ps.map qD),~~~(qD b),~~~.int (pk:Int),~~~.int sd,none,none]) (by
   generalize Dat.tuple (ps.map qD)=LN at *;generalize qD b=db at *;dsimp![A8,jl,et,YI]) ?_
  have ek:=tM (cB kd) "=";by_cases hk:kd=.eq
  ·rw[decide_eq_true ((iy kd).mpr hk)]at ek;generalize Dat.tuple (ps.map qD)=LN at *;generalize qD b=db at *;exact ke (b:=false) (by simp![ek]) (λz=>by cases z) λ_=>d9 (aj:=[some (.own (rD r2)),~~~(jM),~~~.int (m:Int),some (.own xV),~~~.int (x:Int),~~~.str (cB kd),~~~(LN),~~~(db),~~~.int (pk:Int),~~~.int sd,none,none]) rfl ⟨ex,r2,_,_,_,_,_,_,by rw[Qr],by omega,hex⟩
  ·rw[decide_eq_false λz=>hk ((iy kd).mp z)]at ek;obtain⟨q,r3,e3,sq,pq⟩:=hA r2;have vi:Fa [.int r2.1,.int r2.2] []=some (qD q,rD r3):=e3;have ep:=oQ (show SR 74 b from ho.bd) sq (by decide) (by decide);have Yw:bg ((.le,ps,b+q),pk,2)=.list [.tuple [.str "<=",.tuple (ps.map qD),qD (b+q)],.int (pk:Int),.int 2]:=rfl;refine ke (b:=true) (by
    generalize Dat.tuple (ps.map qD)=LN at *;generalize qD b=db at *;simp![ek]) (λ_=>d9 (aj:=[some (.own (rD r3)),~~~(jM),~~~.int (m:Int),some (.own (xV++[bg ((.le,ps,b+q),pk,2)])),~~~.int (x:Int),~~~.str (cB kd),~~~.tuple (ps.map qD),~~~(qD b),~~~.int (pk:Int),~~~.int sd,none,none]) (sJ (Γ1:=[some (.own (rD r3)),~~~(jM),~~~.int (m:Int),some (.own xV),~~~.int (x:Int),~~~.str (cB kd),~~~.tuple (ps.map qD),~~~(qD b),~~~.int (pk:Int),~~~.int sd,none,none]) rfl ?_ rfl zf) ⟨ex++[((.le,ps,b+q),pk,2)],r3,~~~.int (x:Int),~~~.str (cB kd),~~~.tuple (ps.map qD),~~~(qD b),~~~.int (pk:Int),~~~.int sd,?_,by rw[length_append,length_singleton];omega,λe he=>?_⟩) λz=>by cases z
   ·rw[Yw];generalize Dat.tuple (ps.map qD)=LN at *;generalize qD (b+q)=dbq at *;generalize qD b=db at *;generalize qD q=dq at *;simp![vi,ep,z3]
   ·rw[<- append_assoc,map_append,Qr];rfl
   ·rcases mem_append.mp he with he|he
    ·exact hex e he
    ·exact⟨_,qT,hk,q,pq,sq,mem_singleton.mp he⟩
 ·rintro Γ ⟨ex,r,x4,x5,x6,x7,x8,x9,rfl,Qs,hex⟩;have We:ex.length<=m:=by simpa using Qs
  refine wp_seq (Γ1:=[some (.own (rD r)),~~~(jM),~~~.int (m:Int),some (.own ((ts++ex).map bg)),x4,x5,x6,x7,x8,x9,some (.own []),none]) (by
   generalize (ts++ex).map bg=xV at *;simp![z0]) ?_
  refine wp_seqx (λΓ=>∃(ws:List FM.Tl) (r:R) (wW:_),Γ=[some (.own (rD r)),~~~(jM),~~~.int (m:Int),~~~.list ((ts++ex).map bg),x4,x5,x6,x7,x8,x9,some (.own (ws.map bg)),wW]/\ws.Perm (ts++ex)) ?_ ?_
  ·obtain⟨aj,e,ws,r',wW,Hv,hw,hp⟩:=mT (gt:=aName 11) (gb:=uE 10 (fN (tW 0 2 Fx (fN (fM (L3.f2 kU (d8 j9 (aO (aH 10) bS)) (fC (.int 1)))) pK)) (fN (fM (aH 11)) pK))) (enc:=bg) (λl Γ=>∃(ws:List FM.Tl) (r:R) (wW:_),Γ=[some (.own (rD r)),~~~(jM),~~~.int (m:Int),~~~.list ((ts++ex).map bg),x4,x5,x6,x7,x8,x9,some (.own (ws.map bg)),wW]/\ws.length+l.length<=20/\(ws++l).Perm (ts++ex)) (by
    rintro t l Γ ⟨ws,r,wW,rfl,hw,hp⟩;rw[length_cons]at hw;refine⟨[(11,bg t)],rfl,?_⟩;dsimp!;obtain⟨k',r2,e2,b2⟩:=hX r ((ws.length:Int)+1) (by omega) (by omega);obtain⟨k,rfl⟩:∃k:Nat,k'=(k:Int):=⟨k'.toNat,by omega⟩;have jl:Fx [.int r.1,.int r.2] [.int ((ws.length:Int)+1)]=some (.int (k:Int),rD r2):=e2;have ea:=bX (ws.length:Int) 1;have A8:j9 [.list (ws.map bg)]=some (.int (ws.length:Int)):=by show some (Dat.int ((ws.map bg).length:Int))=_;rw[length_map]
    have hk:k<=ws.length:=by omega
    refine d9 (aj:=[some (.own (rD r2)),~~~(jM),~~~.int (m:Int),~~~.list ((ts++ex).map bg),x4,x5,x6,x7,x8,x9,some (.own (zV (ws.map bg) k (bg t))),~~~(bg t)]) (Nj (Γ1:=[some (.own (rD r2)),~~~(jM),~~~.int (m:Int),~~~.list ((ts++ex).map bg),x4,x5,x6,x7,x8,x9,some (.own (ws.map bg)),~~~(bg t)]) rfl (by
     generalize Dat.list ((ts++ex).map bg)=xV at *;generalize bg t=dt at *;generalize ws.map bg=UL at *;simp![ea,A8,jl]) rfl (by rw[length_map];exact hk) (BL ws (by omega))) ⟨ws.take k++t::ws.drop k,r2,_,by rw[ins_map],?_,?_⟩
    ·rw[length_append,length_cons,length_take,length_drop];omega
    ·refine List.Perm.trans ?_ hp;have h1:(ws.take k++t::ws.drop k).Perm (t::(ws.take k++ws.drop k)):=List.perm_middle;rw[List.take_append_drop]at h1;exact(h1.append_right l).trans List.perm_middle.symm) (ts++ex) [some (.own (rD r)),~~~(jM),~~~.int (m:Int),~~~.list ((ts++ex).map bg),x4,x5,x6,x7,x8,x9,some (.own []),none] ⟨[],r,_,rfl,by rw[length_append,length_nil];omega,by rw[nil_append]⟩
   rw[append_nil]at hp;refine⟨aj,?_,ws,r',wW,Hv,hp⟩;show(forL _ _ _ _)=_;exact e
  ·rintro Γ ⟨ws,r,wW,rfl,hp⟩;refine⟨.rm (.list (ws.map bg)) [some (.own (rD r)),~~~(jM),~~~.int (m:Int),~~~.list ((ts++ex).map bg),x4,x5,x6,x7,x8,x9,~~~.list (ws.map bg),wW],?_,(ws,ex,r),_,rfl,rfl,hp,We,hex⟩;generalize Dat.list ((ts++ex).map bg)=xV at *;generalize ws.map bg=UL at *;simp![f7,nZ]
theorem F9:∀(ps qs:List Rat),dP (ps.map qD) (qs.map qD)=(ps.zip qs).map λp=>.tuple [qD p.1,qD p.2]
 |[],qs=>by cases qs<;>rfl
 |p::ps,[]=>rfl
 |p::ps,q::qs=>by
  show Dat.tuple [qD p,qD q]::dP (ps.map qD) (qs.map qD)=_;rw[F9 ps qs];rfl
def Km (d:Dat) (qs:List Rat):Prop:=d=.list (qs.map qD)\/d=.tuple (qs.map qD)
abbrev Vl (F:List Dat->Option Dat):Prop:=∀(d1 d2:Dat) (ps qs:List Rat),Km d1 ps->Km d2 qs->ps.length=qs.length->ps.length<=3->(∀q∈ps,SR 200 q)->(∀q∈qs,SR 200 q)->F [d1,d2]=some (qD (FM.bI ps qs))
theorem Rl(T:TX P K mg)(kZ:Dn P w K mg base 42 "_law_plus" ["a","b"] 2 iW)(kY:Dn P w K mg base 42 "_law_times" ["a","b"] 2 ic)(U:FnAt K mg "_law_dot" (top 45) ["parts","point"]):
  ∃F,Dn P w K mg base 43 "_law_dot" ["parts","point"] 2 F/\Vl F:=by
 refine⟨_,dI ["parts","point","told","one","other"] U λnd _ _ _ _ _ _ _ hr=>
  (ah (aL 2 nd (c9 (k:=0) (a9 ae (a9 ae ag))))
  (ah (jD PassesOwn.never rfl (kH T.zip (a9 (a7 0) (a9 (a7 1) ag))) (fm (n:=2) rfl (aX (aA 3 nd) (aX (aA 4 nd) cK)))
  (ak (aL 2 nd (aR kZ hr (a9 (a7 2) (a9 (aR kY hr (a9 (a7 3) (a9 (a7 4) ag))) ag (hs:=aV)))))))
  (ak (aJ (a7 2))))),?_⟩
 intro d1 d2 ps qs h1 h2 hl h3 sp sq;have z2:2<=sizeLine:=sz (by decide);have hz:me (aO (aH 0) (aO (aH 1) bS)) (bG [~~~(d1),~~~(d2),~~~(qD 0),none,none])=some ((ps.zip qs).map λp=>.tuple [qD p.1,qD p.2]):=by
  rw[<- F9];rcases h1 with rfl|rfl<;>rcases h2 with rfl|rfl<;>rfl
 have hm:∀p∈ps.zip qs,SR 200 p.1/\SR 200 p.2:=λp hp=>⟨sp _ (of_mem_zip hp).1,sq _ (of_mem_zip hp).2⟩;have hlz:(ps.zip qs).length<=3:=by rw[length_zip];omega
 rw[FM.wX ps qs hl];generalize ps.zip qs=zs at *;refine cJ ?_;simp!;rw[aU (aj:=[~~~(d1),~~~(d2),~~~(qD 0),none,none]) (by
  rw[<- Tx];simp![z2])]
 obtain⟨aj,e,acc,s,x3,x4,Hv,_,_,ht,_⟩:=AA (gt:=je 2 (cR (aName 3) (cR (aName 4) jf))) (gb:=gB 2 (iR 2 iW (aO (aH 2) (aO (iR 2 ic (aO (aH 3) (aO (aH 4) bS))) bS)))) (enc:=λp:Rat×Rat=>.tuple [qD p.1,qD p.2]) (λl Γ=>∃(acc:Rat) (s:Nat) (x3 x4:_),Γ=[~~~(d1),~~~(d2),~~~(qD acc),x3,x4]/\SR s acc/\s+401*l.length<=2000/\acc+FM.rh l=FM.rh zs/\∀p∈l,SR 200 p.1/\SR 200 p.2) hz ⟨0,1,_,_,rfl,mF (by decide),by omega,by grind,hm⟩ (by
  rintro⟨a,b⟩ l Γ ⟨acc,s,x3,x4,rfl,hs,hb,ht,hm⟩;rw[length_cons]at hb;obtain⟨sa,sb⟩:=hm _ mem_cons_self;refine⟨[(3,qD a),(4,qD b)],rfl,?_⟩;dsimp!;have e1:=oP sa sb (by decide) (by decide);have e2:=oQ hs (sa.mul sb) (by omega) (by decide);refine d9 (aj:=[~~~(d1),~~~(d2),~~~(qD (acc+a*b)),~~~(qD a),~~~(qD b)]) ?_ ⟨acc+a*b,s+401,_,_,rfl,(hs.add (sa.mul sb)).up (by omega),by omega,?_,λp hp=>hm p (mem_cons_of_mem _ hp)⟩
  ·generalize qD (acc+a*b)=y1 at *;generalize qD (a*b)=y2 at *;generalize qD acc=y3 at *;generalize qD a=y4 at *;generalize qD b=y5 at *;simp![e1,e2]
  ·rw[<- ht];show acc+a*b+FM.rh l=acc+(a*b+FM.rh l);grind)
 rw[aU e,Hv];have:acc=FM.rh zs:=by
  rw[<- ht];show acc=acc+0;grind
 rw[this];simp![]
abbrev UX (F:List Dat->Option Dat):Prop:=∀(d:Dat) (ps:List Rat) (n:Nat) (B:List (List Int)),Km d ps->ps.length=n->n<=3->FM.Mt n 4 B->(∀q∈ps,SR 200 q)->F [cv B,d]=some (.list ((List.range n).map λk=>qD (FM.shr n (FM.bO B) ps k)))
theorem JZ(T:TX P K mg)(RU:Dn P w K mg base 43 "_law_dot" ["parts","point"] 2 Fd)(hD:Vl Fd)(U:FnAt K mg "_law_shares" (top 54) ["back","parts"]):
  ∃F,Dn P w K mg base 44 "_law_shares" ["back","parts"] 2 F/\UX F:=by
 refine⟨_,dI ["back","parts"] U λnd _ _ _ _ _ _ _ hr=>
  (ak (aJ (cS (Bn rfl (B2 (tn:=["k"]) (fv:=["parts","back"]) (js:=[1,0]) "k" rfl (λ_=>rfl) (λ_=>rfl) (by decide +kernel) (by decide +kernel) rfl (by decide +kernel) (by decide +kernel) (by decide +kernel) rfl
   (λx hx=>by((have dF:x="parts"\/x="back":=(by simpa using hx));(rcases dF with rfl|rfl<;>exact⟨_,rfl⟩)))
   (λp hp=>by((have cV:p=(("parts" : Str),(1:Nat))\/p=(("back" : Str),(0:Nat)):=(by simpa using hp));(rcases cV with rfl|rfl<;>exact⟨rfl,.inr (.inl rfl),.inl rfl,λz=>by cases z⟩)))) (i8 T.range (a9 (dW T.len (a9 (a7 0) ag)) ag (hs:=aV))) (λ_ _ _ _=>(aA 0 (show(["k","parts","back"]:List Str).Nodup by decide +kernel))) (λ_ _ _ _=>bV) (λ_ _ _ _=>(aR RU hr (a9 (a7 1) (a9 (cS (iG rfl (cY (tn:=["row"]) (fv:=["k"]) (js:=[0]) rfl (by decide +kernel) (by decide +kernel) rfl (by decide +kernel) (by decide +kernel) rfl
   (λx hx=>by((have dF:x="k":=(by simpa using hx));(rcases dF with rfl<;>exact⟨_,rfl⟩)))
   (λp hp=>by((have cV:p=(("k" : Str),(0:Nat)):=(by simpa using hp));(rcases cV with rfl<;>exact⟨rfl,.inr (.inl rfl),.inl rfl,λz=>by cases z⟩)))) (a7 2) (λ_ _ _ _=>(aA 0 (show(["row","k"]:List Str).Nodup by decide +kernel))) (λ_ _ _ _=>bV) (λ_ _ _ _=>(c9 (k:=0) (a9 (ao (a7 0) (a7 1)) (a9 ae ag) (hs:=b9)))) (cD rfl))) ag)))) (cD rfl))))),?_⟩
 intro d ps n B hd dJ hn hB sp;have z2:2<=sizeLine:=sz (by decide);have zn:n<sizeLine:=lt_of_lt_of_le (show n<1000 by omega) (sz (by decide));have eR:iF [.int (n:Int)]=some ((List.range n).map λi:Nat=>Dat.int (i:Int)):=by rw[<- mH];exact nR n (by omega)
 have A8:j9 [cv B]=some (.int (n:Int)):=by show some (Dat.int ((B.map bH).length:Int))=_;rw[length_map,hB.len]
 refine cJ ?_;simp!;refine vU (qY (kQ (as:=[.int (n:Int)]) (by
  generalize cv B=dB at *;simp![A8]) eR) (by rw[length_map,length_range];exact zn) (de (List.range n) λk hk=>⟨[(0,.int (k:Int))],rfl,?_⟩))
 have jK:k<n:=mem_range.mp hk;have hc:∀ρ:ax,fL (kc [none,some 0] (aName 0) fK (kR (aO (L3.f2 bf (aH 0) (aH 1)) (aO (fC (.int 1)) bS))) (aH 2)) [some (.int (k:Int)),some d,some (cv B)]=some (.list ((B.map λr=>((r.getD k 0:Int):Rat)).map qD)):=λ_=>by
  refine LH (mW (d:=cv B) (ds:=B.map bH) rfl rfl (by rw[length_map,hB.len];exact zn) ?_);rw[map_map];refine de B λr hr=>⟨[(0,bH r)],rfl,?_⟩;have e1:bf (bH r) (.int (k:Int))=some (.int (r.getD k 0)):=gE (by rw[getElem?_map,getD_eq_getElem?_getD,getElem?_eq_getElem (by rw[hB.row r hr];exact jK)];rfl);show _=some (qD ((r.getD k 0:Int):Rat));rw[<- Ga];generalize bH r=dr at *;dsimp![e1,z2]
 have eD:=hD d (.list ((B.map λr=>((r.getD k 0:Int):Rat)).map qD)) ps (B.map λr=>((r.getD k 0:Int):Rat)) hd (.inl rfl) (by rw[length_map,hB.len,dJ]) (by omega) sp λq hq=>by
  obtain⟨r,hr,rfl⟩:=mem_map.mp hq;have:=hB.bd r hr _ (FM.getD_mem (j:=k) (by rw[hB.row r hr];exact jK));exact(qq (b:=7) (by decide) (by omega)).up (by decide)
 have ew:FM.bI ps (B.map λr=>((r.getD k 0:Int):Rat))=FM.shr n (FM.bO B) ps k:=by
  unfold FM.bI FM.shr;rw[dJ];refine FM.aE λj hj=>?_;have nA:j<B.length:=by rw[hB.len];exact hj
  rw[getD_eq_getElem?_getD (l:=B.map _),getElem?_map,getElem?_eq_getElem nA];unfold FM.bO;rw[getD_eq_getElem?_getD (l:=B),getElem?_eq_getElem nA];rfl
 rw[ew]at eD;exact Nr rfl (hc []) eD
theorem F8:∀(ss:List Rat) (bx:List (FM.En×FM.En)),dP (ss.map qD) (bx.map bP)=(ss.zip bx).map λp=>.tuple [qD p.1,bP p.2]
 |[],bx=>by cases bx<;>rfl
 |p::ps,[]=>rfl
 |p::ps,q::qs=>by
  show Dat.tuple [qD p,bP q]::dP (ps.map qD) (qs.map bP)=_;rw[F8 ps qs];rfl
abbrev RO (F:List Dat->Option Dat):Prop:=∀(sd:Bool) (ss:List Rat) (bx:List (FM.En×FM.En)),ss.length=bx.length->ss.length<=3->(∀q∈ss,SR 300 q)->(∀b∈bx,ij b)->F [.list (ss.map qD),.list (bx.map bP),.int (if sd=true then 1 else 0)]=some (aP (FM.jx sd (λk=>ss.getD k 0) (λk=>bx.getD k (none,none)) ss.length))
theorem T6(T:TX P K mg)(kZ:Dn P w K mg base 42 "_law_plus" ["a","b"] 2 iW)(kY:Dn P w K mg base 42 "_law_times" ["a","b"] 2 ic)(U:FnAt K mg "_law_end" (top 55) ["shares","box","side"]):
  ∃F,Dn P w K mg base 43 "_law_end" ["shares","box","side"] 3 F/\RO F:=by
 refine⟨_,dI ["shares","box","side","number","may_be","share","ends","end"] U λnd _ _ _ _ _ _ _ hr=>
  (ah (aL 3 nd (c9 (k:=0) (a9 ae (a9 ae ag))))
  (ah (aL 4 nd iI)
  (ah (jD PassesOwn.never rfl (kH T.zip (a9 (a7 0) (a9 (a7 1) ag))) (fm (n:=2) rfl (aX (aA 5 nd) (aX (aA 6 nd) cK)))
  (ak (bD (fS hr (ao (a7 5) ae) ae) (ah (aL 7 nd (ao (a7 6) (mI T.int (a9 (iH hr (OV (ao (a7 5) ae) ae) (iH hr (a7 2) ae)) ag (hs:=jo)))))
  (ah (bD (fE (a7 7) bU) (ak (aJ bU)) ba)
  (ah (aL 3 nd (aR kZ hr (a9 (a7 3) (a9 (aR kY hr (a9 (a7 5) (a9 (ao (a7 7) ae) ag (hs:=b9)))) ag (hs:=aV)))))
  (ak (aL 4 nd (kL (a7 4) (kJ (ao (a7 7) ae)))))))) ba)))
  (ak (aJ (c9 (k:=0) (a9 (a7 3) (a9 (a7 4) ag)))))))),?_⟩
 intro sd ss bx hl h3 hs Ah;have z2:2<=sizeLine:=sz (by decide);have hz:∀x d3 d4,me (aO (aH 0) (aO (aH 1) bS)) (bG [~~~.list (ss.map qD),~~~.list (bx.map bP),x,d3,d4,none,none,none])=some ((ss.zip bx).map λp=>.tuple [qD p.1,bP p.2]):=λx d3 d4=>by
  rw[<- F8];rfl
 refine cJ ?_;simp!;generalize Xj:(if sd=true then(1:Int)else 0)=si at *;generalize Dat.list (ss.map qD)=d1 at *;generalize Dat.list (bx.map bP)=d2 at *;rw[aU (aj:=[~~~(d1),~~~(d2),~~~.int si,~~~(qD 0),none,none,none,none]) (by
  rw[<- Tx];simp![z2])]
 rw[aU (aj:=[~~~(d1),~~~(d2),~~~.int si,~~~(qD 0),~~~.bool true,none,none,none]) (by
  generalize qD 0=y at *;simp![])]
 have eS:gi (.int si) (.int 1)=some (.bool sd):=by
  rw[cG,<- Xj];cases sd<;>rfl
 let E:Nat->FM.En:=FM.jx sd (λk=>ss.getD k 0) (λk=>bx.getD k (none,none));have key:=Az (gt:=je 2 (cR (aName 5) (cR (aName 6) jf))) (gb:=iE (bY (L3.f2 ix (L3.f2 bf (aH 5) (fC (.int 0))) (fC (.int 0)))) (cN (gB 7 (L3.f2 bf (aH 6) (d8 intD (aO (L3.f2 gi (L3.f2 CK (L3.f2 bf (aH 5) (fC (.int 0))) (fC (.int 0))) (L3.f2 gi (aH 2) (fC (.int 1)))) bS)))) (cN (iE (bY (L3.f2 jb (aH 7) (fC .none))) (lG (fC .none)) ir) (cN (gB 3 (iR 2 iW (aO (aH 3) (aO (iR 2 ic (aO (aH 5) (aO (L3.f2 bf (aH 7) (fC (.int 0))) bS))) bS)))) (gB 4 (pM (aH 4) (L3.f2 bf (aH 7) (fC (.int 1)))))))) ir) (enc:=λp:Rat×(FM.En×FM.En)=>.tuple [qD p.1,bP p.2])
  (λl Γ=>∃(i:Nat) (st:Bool) (v:Rat) (s:Nat) (x5 x6 x7:_),Γ=[~~~(d1),~~~(d2),~~~.int si,~~~(qD v),~~~.bool (!st),x5,x6,x7]/\l=(ss.zip bx).drop i/\i+l.length=ss.length/\E i=some (st,v)/\SR s v/\s+400*l.length<=2000) (λd=>d=.none/\E ss.length=none) (by
  rintro⟨c,b⟩ l Γ ⟨i,st,v,s,x5,x6,x7,rfl,A9,q5,hE,Qe,Ld⟩;rw[length_cons]at q5 Ld;have sZ:(ss.zip bx)[i]?=some (c,b):=by
   have:=congrArg List.head? A9;rw[List.head?_cons,List.head?_drop]at this;exact this.symm
  have lA:l=(ss.zip bx).drop (i+1):=by
   have:=congrArg tail A9;rw[List.tail_cons,List.tail_drop]at this;exact this
  obtain⟨hc,hb⟩:=List.getElem?_zip_eq_some.mp sZ;have sc:SR 300 c:=hs _ (mem_of_getElem? hc);have hB:ij b:=Ah _ (mem_of_getElem? hb);have gc:ss.getD i 0=c:=by rw[getD_eq_getElem?_getD,hc];rfl
  have gb:bx.getD i (none,none)=b:=by rw[getD_eq_getElem?_getD,hb];rfl
  have Ap:E (i+1)=FM.ig (some (st,v)) (FM.sR sd c b):=by
   show FM.ig (E i) (FM.sR sd (ss.getD i 0) (bx.getD i (none,none)))=_;rw[hE,gc,gb]
  refine⟨[(5,qD c),(6,bP b)],rfl,?_⟩;dsimp!;have i0:bf (qD c) (.int 0)=some (.int c.num):=rfl;have L0:=fT c.num 0;by_cases c0:c=0
  ·rw[decide_eq_true (by rw[c0];rfl)]at L0;refine .inl (ke (b:=false) (by
    generalize qD c=dc at *;generalize qD v=dv at *;generalize bP b=db at *;dsimp![i0,L0]) (λz=>by cases z) λ_=>d9 rfl ⟨i+1,st,v,s,_,_,_,rfl,lA,by omega,?_,Qe,by omega⟩)
   rw[Ap];unfold FM.sR;rw[if_pos c0,FM.Io]
  ·have Hm:c.num≠0:=λz=>c0 (Rat.num_eq_zero.mp z);rw[decide_eq_false Hm]at L0;have eg:CK (.int c.num) (.int 0)=some (.bool (decide (0<c))):=by
    rw[ib];congr 2
    rw[decide_eq_decide];have e:=Rat.lt_iff (a:=0) (b:=c);rw[show(0:Rat).num=0 from rfl,show(0:Rat).den=1 from rfl,Int.zero_mul]at e;rw[e];omega
   have eb:=AJ (decide (0<c)) sd;have Xn:∃OA:Int,intD [.bool (decide (0<c)==sd)]=some (.int OA)/\bf (bP b) (.int OA)=some (aP (FM.pick sd c b)):=by
    unfold FM.pick;by_cases h:decide (0<c)=sd
    ·exact⟨1,by rw[h,beq_self_eq_true];rfl,by rw[if_pos h];rfl⟩
    ·exact⟨0,by rw[beq_eq_false_iff_ne.mpr h];rfl,by rw[if_neg h];rfl⟩
   obtain⟨OA,ei,ep⟩:=Xn;have Xk:FM.sR sd c b=FM.scale c (FM.pick sd c b):=by unfold FM.sR;rw[if_neg c0]
   have QK:Iw 70 (FM.pick sd c b):=by
    unfold FM.pick;split
    ·exact hB.hi
    ·exact hB.lo
   rw[Xk]at Ap;generalize hpg:FM.pick sd c b=pg at *;have WN:∀g1:ar->Option Fl,iE (bY (L3.f2 ix (L3.f2 bf (aH 5) (fC (.int 0))) (fC (.int 0)))) g1 ir [~~~d1,~~~d2,~~~.int si,~~~(qD v),~~~.bool (!st),~~~(qD c),~~~(bP b),x7]=g1 [~~~d1,~~~d2,~~~.int si,~~~(qD v),~~~.bool (!st),~~~(qD c),~~~(bP b),x7]:=λg1=>p4 (by
    generalize qD c=dc at *;generalize qD v=dv at *;generalize bP b=db at *;dsimp![i0,L0])
   rw[WN];rw[aU (aj:=[~~~(d1),~~~(d2),~~~.int si,~~~(qD v),~~~.bool (!st),~~~(qD c),~~~(bP b),~~~(aP pg)]) (by
    generalize qD c=dc at *;generalize qD v=dv at *;generalize bP b=db at *;generalize aP pg=dp at *;generalize decide (0<c)=c1 at *;dsimp![i0,eg,eb,eS,ei,ep])]
   match pg,Ap,QK with
   |none,Ap,_=>
    refine .inr ⟨.none,yV (by
     generalize qD c=dc at *;generalize qD v=dv at *;generalize bP b=db at *;dsimp![GU]),rfl,?_⟩
    have h0:E (i+1)=none:=Ap;have:=FM.xR h0 l.length;have e2:i+1+l.length=ss.length:=by omega
    rw[e2]at this;exact this
   |some (s1,v1),Ap,QK=>
    have Ov:SR 70 v1:=QK s1 v1 rfl;have i1:=GS s1 v1;have a0:bf (aP (some (s1,v1))) (.int 0)=some (qD v1):=rfl;have a1:bf (aP (some (s1,v1))) (.int 1)=some (.bool (!s1)):=rfl;have et:=oP sc Ov (by decide) (by decide);have Yz:=oQ Qe (sc.mul Ov) (by omega) (by decide);refine .inl (d9 (aj:=[~~~(d1),~~~(d2),~~~.int si,~~~(qD (v+c*v1)),~~~.bool (!(or st s1)),~~~(qD c),~~~(bP b),~~~(aP (some (s1,v1)))]) ?_ ⟨i+1,st || s1,v+c*v1,s+371,_,_,_,rfl,lA,by omega,Ap,(Qe.add (sc.mul Ov)).up (by omega),by omega⟩);generalize qD (v+c*v1)=y1 at *;generalize qD (c*v1)=y2 at *;generalize qD c=dc at *;generalize qD v=dv at *;generalize qD v1=dv1 at *;generalize bP b=db at *;generalize aP (some (s1,v1))=dp at *;cases st<;>dsimp![i1,a0,a1,et,Yz,Bool.true_or,Bool.false_or]) (ss.zip bx) [~~~(d1),~~~(d2),~~~.int si,~~~(qD 0),~~~.bool true,none,none,none] ⟨0,false,0,1,_,_,_,rfl,rfl,by rw[length_zip];omega,rfl,mF (by decide),by rw[length_zip];omega⟩
 rcases key with⟨aj,e,i,st,v,s,x5,x6,x7,Hv,A9,q5,hE,_⟩|⟨d,e,rfl,hE⟩
 ·rw[aU ((CN (hz _ _ _)).trans e),Hv];have ei:i=ss.length:=by simpa using q5
  rw[ei]at hE;have QL:FM.jx sd (λk=>ss.getD k 0) (λk=>bx.getD k (none,none)) ss.length=some (st,v):=hE;rw[QL];show _=some (Fl.rt (.tuple [qD v,.bool (!st)]));generalize qD v=dv at *;simp![z2]
 ·rw[yV ((CN (hz _ _ _)).trans e)];have QL:FM.jx sd (λk=>ss.getD k 0) (λk=>bx.getD k (none,none)) ss.length=none:=hE;rw[QL];rfl
theorem AQ{c:Nat}:∀{p:List Rat},(∀q∈p,SR c q)->fg p<=2^(c*p.length)
 |[],_=>by show 1<=2^(c*0);rw[Nat.mul_zero];exact le_refl _
 |q::p,h=>by
  show q.den*fg p<=_;rw[length_cons,Nat.mul_succ,add_comm,pow_add];exact mul_le_mul (Nat.le_of_lt (h q mem_cons_self).ld) (AQ λx hx=>h x (mem_cons_of_mem _ hx))
theorem sI:∀(i:Nat) {r s:Nat},r<=s->FM.cb r i<=FM.cb s i
 |0,_,_,h=>h
 |i+1,r,s,h=>sI i (add_le_add h (Nat.div_le_div_right (mul_le_mul h h)))
structure V6 (n:Nat) (o:FM.Ol):Prop where
 len:o.2.1.length=n
 parts:∀q∈o.2.1,SR 100 q
 bd:SR 200 o.2.2
variable {p:List Rat}
theorem JA(hp:p.length=n)(hn:n<=3)(hl:os.length<=13)(sp:∀q∈p,SR 100 q)(pZ:∀o∈os,V6 n o):Ds 200 600 p os:=by
 have Qt:FM.cb (os.length+1) p.length<sizeLine:=by
  rw[hp];refine lt_of_le_of_lt (sI n (show os.length+1<=14 by omega)) ?_;rw[show sizeLine=16777216 by decide];rcases(show n=0\/n=1\/n=2\/n=3 by omega)with e|e|e|e<;>subst e<;>decide
 have xH:FM.bt (200+600) p.length<=1900000:=by
  rw[hp];rcases(show n=0\/n=1\/n=2\/n=3 by omega)with e|e|e|e<;>subst e<;>decide
 refine⟨by decide,by decide,by decide,by omega,by omega,xH,Qt,λq hq=>(sp q hq).up (by decide),?_,λo ho=>?_⟩
 ·exact lt_of_le_of_lt (AQ sp) (Nat.pow_lt_pow_right (by decide) (by omega))
 ·have h:=pZ o ho;refine⟨h.len.trans hp.symm,λq hq=>(h.parts q hq).up (by decide),h.bd,?_⟩;have h1:fg o.2.1<=2^300:=le_trans (AQ h.parts) (pow_le_pow_right (by decide) (by rw[h.len];omega));have h2:=h.bd.ld;calc fg o.2.1*o.2.2.den<=2^300*2^200:=mul_le_mul h1 (Nat.le_of_lt h2)
   _=2^500:=(pow_add 2 300 200).symm
   _<2^600:=Nat.pow_lt_pow_right (by decide) (by decide)
structure RA (n:Nat) (N B:List (List Int)) (bx:List (FM.En×FM.En)) (os:List FM.Ol):Prop where
 hN:FM.Mt n 4 N
 hB:FM.Mt n 4 B
 T:FM.Turn n (FM.bO N) (FM.bO B)
 bl:bx.length=n
 rz:∀b∈bx,ij b
 says:FM.wN n (FM.bO N) (λk=>bx.getD k (none,none)) os
 ok:∀o∈os,V6 n o
variable {B:List (List Int)}
theorem S8{m:Nat}{N:List (List Int)}{ts ws ex:List FM.Tl}(hN:FM.Mt n 4 N)(hB:FM.Mt n 4 B)(T:FM.Turn n (FM.bO N) (FM.bO B))(bl:bx.length=n)(rz:∀b∈bx,ij b)(hL:FM.Bf n n N bx ts)(oH:∀t∈ts,y9 n 74 t.1)(hp:ws.Perm (ts++ex))(hex:∀e∈ex,∃t∈ts,EW t e):RA n N B bx (ws.map (·.1)):=by
 refine⟨hN,hB,T,bl,rz,FM.FK (FM.Jz hN hL) (λo ho=>?_) (λu hu=>?_),λo ho=>?_⟩
 ·obtain⟨t,ht,rfl⟩:=mem_map.mp ho;exact mem_map.mpr ⟨t,hp.mem_iff.mpr (mem_append_left _ ht),rfl⟩
 ·obtain⟨t,ht,rfl⟩:=mem_map.mp hu;rcases mem_append.mp (hp.mem_iff.mp ht)with h|h
  ·exact .inl (mem_map.mpr ⟨t,h,rfl⟩)
  ·obtain⟨t0,h0,hk,q,pq,_,rfl⟩:=hex t h;exact .inr ⟨t0.1,mem_map.mpr ⟨t0,h0,rfl⟩,λx hx=>FM.zP hk pq hx⟩
 ·obtain⟨t,ht,rfl⟩:=mem_map.mp ho;rcases mem_append.mp (hp.mem_iff.mp ht)with h|h
  ·have:=oH t h;exact⟨this.len,λq hq=>(this.parts q hq).up (by decide),this.bd.up (by decide)⟩
  ·obtain⟨t0,h0,hk,q,pq,sq,rfl⟩:=hex t h;have:=oH t0 h0;exact⟨this.len,λq hq=>(this.parts q hq).up (by decide),(this.bd.add sq).up (by decide)⟩
def kD (n:Nat) (B:List (List Int)) (bx:List (FM.En×FM.En)) (p:List Rat):FM.En:=FM.uc (FM.shr n (FM.bO B) p) (λk=>bx.getD k (none,none)) n
def kT (n:Nat) (B:List (List Int)) (bx:List (FM.En×FM.En)) (p:List Rat):FM.En:=FM.rf (FM.shr n (FM.bO B) p) (λk=>bx.getD k (none,none)) n
theorem Mk{N:List (List Int)}(h:RA n N B bx os)(hp:p.length=n):FM.never p.length (FM.aY p os)=none/\FM.nN p os=kD n B bx p/\FM.mZ p os=kT n B bx p:=
 FM.turned h.T hp (λo ho=>(h.ok o ho).len) h.says λk hk=>(h.rz _ (by
  show bx.getD k (none,none)∈bx;rw[getD_eq_getElem?_getD,getElem?_eq_getElem (by rw[h.bl];exact hk)];exact getElem_mem _)).ne
theorem Rt(n:Nat)(q:Rat):Al (n+2) (qD q):=⟨by show 2<=1000;decide,λd hd=>by
 rcases mem_cons.mp hd with e|hd
 ·rw[e];exact trivial
 ·rw[mem_singleton.mp hd];exact trivial⟩
theorem LU(n:Nat)(g:FM.En):Al (n+3) (aP g):=by
 match g with
 |none=>exact trivial
 |some (s,v)=>exact⟨by show 2<=1000;decide,λd hd=>by
   rcases mem_cons.mp hd with e|hd
   ·rw[e];exact Rt n v
   ·rw[mem_singleton.mp hd];exact trivial⟩
theorem Td(r:Option (FM.En×FM.En)):Al 5 (qy r):=by
 match r with
 |none=>exact trivial
 |some (l,g)=>exact⟨by show 2<=1000;decide,λd hd=>by
   rcases mem_cons.mp hd with e|hd
   ·rw[e];exact LU 1 l
   ·rw[mem_singleton.mp hd];exact LU 1 g⟩
theorem Ke(r:Option (FM.En×FM.En)):Al 5 (i5 r):=by
 match r with
 |none=>exact trivial
 |some (none,g)=>exact trivial
 |some (some (s,v),g)=>
  show Al 5 (if g=some (s,v)then qD v else .none);split
  ·exact Rt 3 v
  ·exact trivial
theorem Ay{k:Nat}{gb:ar->Option Fl}{I:ar->Prop}(st:∀(r:R) (Γ:ar),I Γ->∃aj,gb (Γ.set k (some (.own (rD r))))=some (.nx aj)/\I aj):∀(rs:List R) (Γ:ar),I Γ->∃aj,wy k gb (rs.map λr=>[r.1,r.2]) Γ=some (.nx aj)/\I aj
 |[],Γ,h=>⟨Γ,rfl,h⟩
 |r::rs,Γ,h=>by
  obtain⟨Γ1,e1,h1⟩:=st r Γ h;obtain⟨qh,e2,h2⟩:=Ay st rs Γ1 h1;refine⟨qh,?_,h2⟩;show(gb (Γ.set k (some (.own (rD r))))).bind _=_;rw[e1];exact e2
theorem Nq{gb:ar->Option Fl}{fp:ax->Option (List (List Int))}{rs:List R}{I:ar->Prop}(h:fp (bG Γ)=some (rs.map λr=>[r.1,r.2]))(hI:I Γ)(st:∀(r:R) (Γ:ar),I Γ->∃aj,gb (Γ.set k (some (.own (rD r))))=some (.nx aj)/\I aj):∃aj,yr k gb fp Γ=some (.nx aj)/\I aj:=by
 unfold yr;rw[h,Option.bind_some];exact Ay st rs Γ hI
theorem vL:∀q∈FM.aZ n i,SR 1 q:=λq hq=>by
 obtain⟨c,_,rfl⟩:=mem_map.mp hq;split
 ·exact FE (by decide)
 ·exact mF (by decide)
theorem II(hE:RO Fe)(hn:n<=3)(bl:bx.length=n)(rz:∀b∈bx,ij b)(hs:∀k,k<n->SR 300 (FM.shr n (FM.bO B) p k)):
  Fe [.list ((List.range n).map λk=>qD (FM.shr n (FM.bO B) p k)),.list (bx.map bP),.int 1]=some (aP (kD n B bx p))/\Fe [.list ((List.range n).map λk=>qD (FM.shr n (FM.bO B) p k)),.list (bx.map bP),.int 0]=some (aP (kT n B bx p)):=by
 have e1:((List.range n).map λk=>qD (FM.shr n (FM.bO B) p k))=((List.range n).map (FM.shr n (FM.bO B) p)).map qD:=by rw[map_map];rfl
 have hl:((List.range n).map (FM.shr n (FM.bO B) p)).length=n:=by rw[length_map,length_range]
 have hg:∀sd,Fe [.list (((List.range n).map (FM.shr n (FM.bO B) p)).map qD),.list (bx.map bP),.int (if sd=true then 1 else 0)]=some (aP (FM.jx sd (FM.shr n (FM.bO B) p) (λk=>bx.getD k (none,none)) n)):=λsd=>by
  have:=hE sd ((List.range n).map (FM.shr n (FM.bO B) p)) bx (by rw[hl,bl]) (by rw[hl];exact hn) (λq hq=>by
   obtain⟨k,hk,rfl⟩:=mem_map.mp hq;exact hs k (mem_range.mp hk)) rz
  rw[this,hl];congr 2
  exact FM.vh λk hk=>⟨FM.qU _ hk,rfl⟩
 rw[e1];have h1:=hg true;have h0:=hg false;rw[FM.HI]at h1;rw[FM.HJ]at h0;exact⟨h1,h0⟩
theorem OB(hn:n<=3)(hB:FM.Mt n 4 B)(hp:p.length=n)(hc:c<=70)(sp:∀q∈p,SR c q)(hk:k<n):SR 300 (FM.shr n (FM.bO B) p k):=by
 have ht:∀j,j<n->SR (c+7) (p.getD j 0*FM.bO B j k):=λj hj=>by
  refine(sp _ ?_).mul (qq (b:=7) (by decide) ?_)
  ·rw[getD_eq_getElem?_getD,getElem?_eq_getElem (by rw[hp];exact hj)];exact getElem_mem _
  ·have:=hB.bd _ (hB.get hj) _ (FM.getD_mem (j:=k) (by rw[hB.row _ (hB.get hj)];exact hk));omega
 have hm:∀m,m<=n->SR (1+(c+8)*m) (FM.sm m λj=>p.getD j 0*FM.bO B j k):=λm=>by
  induction m with
  |zero=>exact λ_=>mF (by omega)
  |succ m ih=>
   intro h;exact((ih (by omega)).add (ht m (by omega))).up (by rw[Nat.mul_succ];omega)
 have h3:(c+8)*n<=(70+8)*3:=mul_le_mul (by omega) hn;exact(hm n (le_refl _)).up (by omega)
abbrev RP (F:List Dat->Option Dat):Prop:=∀(n i:Nat) (B:List (List Int)) (bx:List (FM.En×FM.En)),n<=3->i<n->FM.Mt n 4 B->bx.length=n->(∀b∈bx,ij b)->F [cv B,.list (bx.map bP),.int (i:Int)]=some (qy (some (kT n B bx (FM.aZ n i),kD n B bx (FM.aZ n i))))
theorem Rk(T:TX P K mg)(IA:Dn P w K mg base 44 "_law_shares" ["back","parts"] 2 Fs)(hS:UX Fs)(ID:Dn P w K mg base 44 "_law_end" ["shares","box","side"] 3 Fe)(hE:RO Fe)(U:FnAt K mg "_law_due" (top 57) ["back","box","place"]):
  ∃F,Dn P w K mg base 45 "_law_due" ["back","box","place"] 3 F/\RP F:=by
 refine⟨_,dI ["back","box","place","parts","shares"] U λnd _ _ _ _ _ _ _ hr=>
  (ah (p7 3 nd rfl (cY (tn:=["k"]) (fv:=["place"]) (js:=[2]) rfl (by decide +kernel) (by decide +kernel) rfl (by decide +kernel) (by decide +kernel) rfl
   (λx hx=>by((have dF:x="place":=(by simpa using hx));(rcases dF with rfl<;>exact⟨_,rfl⟩)))
   (λp hp=>by((have cV:p=(("place" : Str),(2:Nat)):=(by simpa using hp));(rcases cV with rfl<;>exact⟨rfl,.inr (.inl rfl),.inl rfl,λz=>by cases z⟩)))) (i8 T.range (a9 (dW T.len (a9 (a7 1) ag)) ag (hs:=aV))) (λ_ _ _ _=>(aA 0 (show(["k","place"]:List Str).Nodup by decide +kernel))) (λ_ _ _ _=>bV) (λ_ _ _ _=>(c9 (k:=0) (a9 (mI T.int (a9 (iH hr (a7 0) (a7 1)) ag (hs:=jo))) (a9 ae ag) (hs:=aV)))) (cD rfl))
  (ah (aL 4 nd (aR IA hr (a9 (a7 0) (a9 (a7 3) ag))))
  (ak (aJ (c9 (k:=0) (a9 (aR ID hr (a9 (a7 4) (a9 (a7 1) (a9 ae ag)))) (a9 (aR ID hr (a9 (a7 4) (a9 (a7 1) (a9 ae ag)))) ag (hs:=aV)) (hs:=aV))))))),?_⟩
 intro n i B bx hn hi hB bl rz;have z2:2<=sizeLine:=sz (by decide);have zn:n<sizeLine:=lt_of_lt_of_le (show n<1000 by omega) (sz (by decide));have eR:iF [.int (n:Int)]=some ((List.range n).map λi:Nat=>Dat.int (i:Int)):=by rw[<- mH];exact nR n (by omega)
 have A8:j9 [.list (bx.map bP)]=some (.int (n:Int)):=by show some (Dat.int ((bx.map bP).length:Int))=_;rw[length_map,bl]
 have eS:=hS (.list ((FM.aZ n i).map qD)) (FM.aZ n i) n B (.inl rfl) (FM.iB n i) hn hB λq hq=>(vL q hq).up (by decide);obtain⟨e1,e0⟩:=II hE (p:=FM.aZ n i) (B:=B) hn bl rz λk hk=>OB (c:=1) hn hB (FM.iB n i) (by decide) vL hk;refine cJ ?_;simp!;generalize Dat.list (bx.map bP)=fj at *;generalize cv B=dB at *;rw[aU (aj:=[~~~(dB),~~~(fj),~~~.int (i:Int),~~~.list ((FM.aZ n i).map qD),none]) (oX (lD (kQ (as:=[.int (n:Int)]) (by simp![A8]) eR) (by rw[length_map,length_range];exact zn) (by
  unfold FM.aZ;rw[map_map];refine de (List.range n) λk hk=>⟨[(0,.int (k:Int))],rfl,?_⟩;have e:=cG (k:Int) (i:Int);have e2:intD [.bool (decide ((k:Int)=(i:Int)))]=some (.int (if i=k then 1 else 0)):=by
   by_cases h:i=k
   ·rw[decide_eq_true (by rw[h]),if_pos h];rfl
   ·rw[decide_eq_false (by omega),if_neg h];rfl
  have e3:qD (if i=k then 1 else 0)=.tuple [.int (if i=k then 1 else 0),.int 1]:=by split<;>rfl
  show _=some (qD (if i=k then 1 else 0));rw[e3];generalize (if i=k then(1:Int)else 0)=v at *;simp![e,e2,z2])))]
 generalize Dat.list ((FM.aZ n i).map qD)=dp at *;generalize Dat.list ((List.range n).map λk=>qD (FM.shr n (FM.bO B) (FM.aZ n i) k))=ds at *;rw[aU (aj:=[~~~(dB),~~~(fj),~~~.int (i:Int),~~~(dp),~~~(ds)]) (by simp![eS])];show _=some (Fl.rt (.tuple [aP (kT n B bx (FM.aZ n i)),aP (kD n B bx (FM.aZ n i))]));generalize aP (kT n B bx (FM.aZ n i))=y0 at *;generalize aP (kD n B bx (FM.aZ n i))=y1 at *;simp![e0,e1,z2]
theorem QX(os:List FM.Ol):ub (.list (os.map cm)) (.list (os.map cm))=some (.bool true):=by
 have h:kqdOk 9 (.list (os.map cm))=true:=by
  show(os.map cm).all (kqdOk 8)=true;rw[all_map,all_eq_true];intro o _;show(PyData.strOk (cB o.1)&&((o.2.1.map qD).all (kqdOk 6)&&_))=true;have:(o.2.1.map qD).all (kqdOk 6)=true:=by
   rw[all_map,all_eq_true];exact λ_ _=>rfl
  rw[oC,this];rfl
 unfold ub;rw[Nw h h,mV rfl];rfl
theorem Oj(ws:List FM.Tl):(ws.map (·.1)).map cm=ws.map λt=>cm t.1:=by rw[map_map];rfl
abbrev Vs (F:List Dat->List Dat->Option (Dat×List Dat)):Prop:=∀r:R,∃r':R,F (rD r) []=some (.bool true,rD r')
theorem Rm(T:TX P K mg){Fx Ft Fb RN Fo:List Dat->List Dat->Option (Dat×List Dat)}{Fa RM:List Dat->Option Dat}(bN:eI P w K mg base 52 "_law_next" ["pot","many"] 2 Fx)(hX:tf Fx)(O6:eI P w K mg base 52 "_law_turn" ["pot","many"] 2 Ft)(hT:UT Ft)(RV:eI P w K mg base 52 "_law_box" ["pot","many"] 2 Fb)(hB:S0 Fb)(Bj:eI P w K mg base 52 "_law_box_lines" ["pot","new","box"] 3 RN)(hL:Vt RN)(IC:eI P w K mg base 52 "_law_looser" ["pot","lines","most"] 3 Fo)(hO:Vc Fo)(pU:Dn P w K mg base 52 "_law_alike" ["told","due"] 2 Fa)(hA:Vw 5 Fa)(rJ:Dn P w K mg base 52 "range_of" ["place","many","others"] 3 RM)(Lw:RB RM)(Kr:Dn P w K mg base 52 "what_is" ["place","many","others"] 3 Fw)(hW:Rv Fw)(IE:Dn P w K mg base 52 "_law_due" ["back","box","place"] 3 Fd)(hD:RP Fd)(U:FnAt K mg "_law_case" (top 58) ["pot"]):
  ∃F,eI P w K mg base 53 "_law_case" ["pot"] 1 F/\Vs F:=by
 refine⟨_,l6 ["pot","many","new","back","box","lines","handed","place","least","greatest","alone"] U λnd _ _ _ _ _ _ _ hr=>
  (ah (eY 1 nd (ot (az ae) (bA 0 bN hr (ay (az ae) aK))))
  (ah (xn (bA 0 O6 hr (ay (az (a7 1)) aK)) (rV (n:=2) rfl (aX (aA 2 nd) (aX (aA 3 nd) cK))))
  (ah (eY 4 nd (bA 0 RV hr (ay (az (a7 1)) aK)))
  (ah (DO 5 nd rfl (iS (N':=["one"])) (J0 (bA 0 IC hr (ay (bA 0 Bj hr (ay (az (a7 2)) (ay (az (a7 4)) aK))) (ay (az ae) aK) (hst:=aV)))) (λ_ _ _ _=>(aA 0 (show(["one"]:List Str).Nodup by decide +kernel))) (λ_ _ _ _=>bV) (λ_ _ _ _=>(ao (a7 0) ae)) (cD rfl))
  (ah (aL 6 nd (cS (nq T.list (a9 (a7 5) ag))))
  (ah (p9 PassesOwn.never rfl T.range (a9 (a7 1) ag) (aA 7 nd) (ak (bD (tJ (fo (aR pU hr (a9 (aR rJ hr (a9 (a7 7) (a9 (a7 1) (a9 (a7 6) ag)))) (a9 (aR IE hr (a9 (a7 3) (a9 (a7 4) (a9 (a7 7) ag)))) ag (hs:=aV)) (hs:=aV))))) (ak (eZ (az iI))) ba)))
  (ah (eY 7 nd (bA 0 bN hr (ay (az (a7 1)) aK)))
  (ah (IZ (aR IE hr (a9 (a7 3) (a9 (a7 4) (a9 (a7 7) ag)))) (rV (n:=2) rfl (aX (aA 8 nd) (aX (aA 9 nd) cK))))
  (ah (aL 10 nd bU)
  (ah (bD (fD (kI (lx (a7 8) bU) (jE (zi hr (a7 8) (a7 9))))) (ak (aL 10 nd (ao (a7 8) ae))) ba)
  (ak (eZ (az (kL (aR pU hr (a9 (aR Kr hr (a9 (a7 7) (a9 (a7 1) (a9 (a7 6) ag)))) (a9 (a7 10) ag) (hs:=aV))) (kJ (MI hr (a7 6) (a7 5))))))))))))))))),?_⟩
 intro r;have z2:2<=sizeLine:=sz (by decide);refine(wp_runM (λ_:R=>.bool true) (λa=>rD a) (λ_=>True) ?_).imp λ_ h=>h.1;show WP (cN _ _ [some (.own (rD r)),none,none,none,none,none,none,none,none,none,none]) _;obtain⟨t2,r1,e1,b1⟩:=hX r 2 (by decide) (by decide);have kA:Fx [.int r.1,.int r.2] [.int 2]=some (.int t2,rD r1):=e1;have ea:=bX 2 t2;obtain⟨n,hn⟩:∃n:Nat,2+t2=(n:Int):=⟨(2+t2).toNat,by omega⟩;rw[hn]at ea;have n2:2<=n:=by omega
 have n3:n<=3:=by omega
 refine wp_seq (Γ1:=[some (.own (rD r1)),~~~.int (n:Int),none,none,none,none,none,none,none,none,none]) (by simp![kA,ea]) ?_;obtain⟨N,B,r2,e2,hN,Uz,XU⟩:=hT r1 n (by omega) n3;have jl:Ft [.int r1.1,.int r1.2] [.int (n:Int)]=some (.list [cv N,cv B],rD r2):=e2;refine wp_seq (Γ1:=[some (.own (rD r2)),~~~.int (n:Int),~~~(cv N),~~~(cv B),none,none,none,none,none,none,none]) (by
  generalize cv N=dN at *;generalize cv B=dB at *;simp![jl,B5]) ?_
 obtain⟨bx,r3,e3,bl,rz⟩:=hB r2 n n3;have vi:Fb [.int r2.1,.int r2.2] [.int (n:Int)]=some (.list (bx.map bP),rD r3):=e3;refine wp_seq (Γ1:=[some (.own (rD r3)),~~~.int (n:Int),~~~(cv N),~~~(cv B),~~~.list (bx.map bP),none,none,none,none,none,none]) (by
  generalize cv N=dN at *;generalize cv B=dB at *;generalize Dat.list (bx.map bP)=fj at *;simp![vi]) ?_
 obtain⟨ts,r4,e4,tl,v8,oH⟩:=hL r3 n N bx n3 hN bl rz;have R3:RN [.int r3.1,.int r3.2] [cv N,.list (bx.map bP)]=some (.list (ts.map bg),rD r4):=e4;obtain⟨ws,ex,r5,e5,hp,hxl,hex⟩:=hO r4 n 2 ts (by omega) (by decide) oH;have HN:Fo [.int r4.1,.int r4.2] [.list (ts.map bg),.int 2]=some (.list (ws.map bg),rD r5):=e5;have CB:ws.length<=8:=by rw[hp.length_eq,length_append];omega
 have Us:=S8 (m:=2) hN Uz XU bl rz v8 oH hp hex;have Xq:(ws.map (·.1)).length<=13:=by rw[length_map];omega
 refine wp_seq (Γ1:=[some (.own (rD r5)),~~~.int (n:Int),~~~(cv N),~~~(cv B),~~~.list (bx.map bP),~~~.list ((ws.map (·.1)).map cm),none,none,none,none,none]) (FI (K8 (Γ1:=[some (.own (rD r5)),~~~.int (n:Int),~~~(cv N),~~~(cv B),~~~.list (bx.map bP),none,none,none,none,none,none]) (Nk (d:=.list (ws.map bg)) (by
  generalize cv N=dN at *;generalize cv B=dB at *;generalize Dat.list (bx.map bP)=fj at *;generalize Dat.list (ts.map bg)=jM at *;generalize Dat.list (ws.map bg)=UL at *;simp![R3,HN]) rfl) (by rw[length_map];exact lt_of_lt_of_le (show ws.length<1000 by omega) (sz (by decide))) (by
   rw[Oj];refine de ws λt _=>⟨[(0,bg t)],rfl,?_⟩;have e:bf (bg t) (.int 0)=some (cm t.1):=rfl;generalize bg t=dt at *;generalize cm t.1=dt1 at *;dsimp![e]))) ?_
 generalize ws.map (·.1)=os at *;have SO:sj [.list (os.map cm)]=some (os.map cm):=rfl;refine wp_seq (Γ1:=[some (.own (rD r5)),~~~.int (n:Int),~~~(cv N),~~~(cv B),~~~.list (bx.map bP),~~~.list (os.map cm),~~~.list (os.map cm),none,none,none,none]) (by
  generalize cv N=dN at *;generalize cv B=dB at *;generalize Dat.list (bx.map bP)=fj at *;simp![SO]) ?_
 have Qb:∀i,(FM.aZ n i).length=n:=λi=>FM.iB n i;have hK:∀i,Ds 200 600 (FM.aZ n i) os:=λi=>JA (Qb i) n3 Xq (λq hq=>(vL q hq).up (by decide)) Us.ok;have Lg:∀i,C0 (FM.aZ n i) os=some (kT n B bx (FM.aZ n i),kD n B bx (FM.aZ n i)):=λi=>by
  obtain⟨a,b,c⟩:=Mk Us (Qb i);unfold C0;rw[a,b,c]
 have YJ:∀i:Nat,RM [.int (i:Int),.int (n:Int),.list (os.map cm)]=some (qy (some (kT n B bx (FM.aZ n i),kD n B bx (FM.aZ n i)))):=λi=>by
  have:=Lw 200 600 i n os (by omega) (hK i);rw[KN,Lg]at this;exact this
 have eW:∀i:Nat,Fw [.int (i:Int),.int (n:Int),.list (os.map cm)]=some (i5 (some (kT n B bx (FM.aZ n i),kD n B bx (FM.aZ n i)))):=λi=>by
  have:=hW 200 600 i n os (by omega) (hK i);rw[Lg]at this;exact this
 have eD:∀i:Nat,i<n->Fd [cv B,.list (bx.map bP),.int (i:Int)]=some (qy (some (kT n B bx (FM.aZ n i),kD n B bx (FM.aZ n i)))):=λi hi=>hD n i B bx n3 hi Uz bl rz;have eR:iF [.int (n:Int)]=some ((List.range n).map λi:Nat=>Dat.int (i:Int)):=by rw[<- mH];exact nR n (by omega)
 have SM:=QX os;generalize Dat.list (os.map cm)=lS at *;generalize Dat.list (bx.map bP)=fj at *;generalize cv N=dN at *;generalize cv B=dB at *;refine wp_seqx (λΓ=>∃x7,Γ=[some (.own (rD r5)),~~~.int (n:Int),~~~(dN),~~~(dB),~~~(fj),~~~(lS),~~~(lS),x7,none,none,none]) ((Ax (enc:=λi:Nat=>Dat.int (i:Int)) (l:=List.range n) (as:=[.int (n:Int)]) (λl Γ=>(∀i∈l,i<n)/\∃x7,Γ=[some (.own (rD r5)),~~~.int (n:Int),~~~(dN),~~~(dB),~~~(fj),~~~(lS),~~~(lS),x7,none,none,none]) rfl eR ⟨λi hi=>mem_range.mp hi,_,rfl⟩ ?_).imp λΓ h=>⟨h.1,h.2.2⟩) ?_
 ·rintro i l Γ ⟨hi,x7,rfl⟩;refine⟨[(7,.int (i:Int))],rfl,?_⟩;dsimp!;have a1:=YJ i;have a2:=eD i (hi i mem_cons_self);have a3:=hA _ (Td (some (kT n B bx (FM.aZ n i),kD n B bx (FM.aZ n i))));generalize qy (some (kT n B bx (FM.aZ n i),kD n B bx (FM.aZ n i)))=dr at *;refine d9 (aj:=[some (.own (rD r5)),~~~.int (n:Int),~~~(dN),~~~(dB),~~~(fj),~~~(lS),~~~(lS),~~~.int (i:Int),none,none,none]) (by simp![a1,a2,a3]) ⟨λj hj=>hi j (mem_cons_of_mem _ hj),_,rfl⟩
 ·rintro Γ ⟨x7,rfl⟩;obtain⟨i',r6,e6,b6⟩:=hX r5 (n:Int) (by omega) (by omega);obtain⟨i,rfl⟩:∃i:Nat,i'=(i:Int):=⟨i'.toNat,by omega⟩;have YM:Fx [.int r5.1,.int r5.2] [.int (n:Int)]=some (.int (i:Int),rD r6):=e6;have a2:=eD i (by omega);have a4:=eW i;have a5:=hA _ (Ke (some (kT n B bx (FM.aZ n i),kD n B bx (FM.aZ n i))));generalize kT n B bx (FM.aZ n i)=lo at *;generalize kD n B bx (FM.aZ n i)=hi at *;have er:qy (some (lo,hi))=.tuple [aP lo,aP hi]:=rfl;rw[er]at a2;refine wp_seq (Γ1:=[some (.own (rD r6)),~~~.int (n:Int),~~~(dN),~~~(dB),~~~(fj),~~~(lS),~~~(lS),~~~.int (i:Int),none,none,none]) (by simp![YM]) ?_;refine wp_seq (Γ1:=[some (.own (rD r6)),~~~.int (n:Int),~~~(dN),~~~(dB),~~~(fj),~~~(lS),~~~(lS),~~~.int (i:Int),~~~(aP lo),~~~(aP hi),none]) (by
   generalize aP lo=d0 at *;generalize aP hi=d1 at *;simp![a2,B5]) ?_
  refine wp_seq (Γ1:=[some (.own (rD r6)),~~~.int (n:Int),~~~(dN),~~~(dB),~~~(fj),~~~(lS),~~~(lS),~~~.int (i:Int),~~~(aP lo),~~~(aP hi),~~~.none]) (by
   generalize aP lo=d0 at *;generalize aP hi=d1 at *;simp![]) ?_
  refine wp_seq (Γ1:=[some (.own (rD r6)),~~~.int (n:Int),~~~(dN),~~~(dB),~~~(fj),~~~(lS),~~~(lS),~~~.int (i:Int),~~~(aP lo),~~~(aP hi),~~~(i5 (some (lo,hi)))]) ?_ ?_
  ·match lo with
   |none=>
    have i2:j1 (aP none) .none=some (.bool false):=rfl;have e2:i5 (some (none,hi))=.none:=rfl;rw[e2];generalize aP hi=d1 at *;generalize aP none=d0 at *;dsimp![i2]
   |some (s,v)=>
    have e2:i5 (some (some (s,v),hi))=if hi=some (s,v)then qD v else .none:=rfl;have a0:bf (aP (some (s,v))) (.int 0)=some (qD v):=rfl;have hq:=LK (some (s,v)) hi;have i2:j1 (aP (some (s,v))) .none=some (.bool true):=rfl;rw[e2];by_cases h:hi=some (s,v)
    ·rw[decide_eq_true h.symm]at hq;rw[if_pos h];generalize aP (some (s,v))=d0 at *;generalize aP hi=d1 at *;dsimp![i2,hq,a0]
    ·rw[decide_eq_false λz=>h z.symm]at hq;rw[if_neg h];generalize aP (some (s,v))=d0 at *;generalize aP hi=d1 at *;dsimp![i2,hq]
  ·refine⟨.rm (.bool true) [some (.own (rD r6)),~~~.int (n:Int),~~~(dN),~~~(dB),~~~(fj),~~~(lS),~~~(lS),~~~.int (i:Int),~~~(aP lo),~~~(aP hi),~~~(i5 (some (lo,hi)))],?_,r6,_,rfl,rfl,trivial⟩;generalize aP lo=d0 at *;generalize aP hi=d1 at *;generalize i5 (some (lo,hi))=d2 at *;simp![a4,a5,SM]
def EZ:List Dat->Option Dat:=open Classical in λds=>if ∃ns:List Int,ds=[.list (ns.map .int)]/\ns.length<=63 then some (.bool true)else none
variable {fd:FuncData} {f:Addr}
theorem T4(T:TX P K mg){Fp:List Dat->Option (List (List Int))}{Fc:List Dat->List Dat->Option (Dat×List Dat)}(O7:vH P w K mg base 53 "_law_pots" ["script"] 1 Fp)(hP:UZ Fp)(O8:eI P w K mg base 53 "_law_case" ["pot"] 1 Fc)(hC:Vs Fc)(U:nI K "law" "law" (top 59) f fd):
  gn P w K mg base gO 54 f fd ["script"] (FF K 1 EZ):=by
 have nd:(["script","pot"]:List Str).Nodup:=by decide +kernel
 refine OW U (N:=["script","pot"]) ⟨rfl,rfl,rfl,by decide +kernel,rfl,by decide +kernel,by decide +kernel⟩ rfl (λbC A outer s H E hr=>
  (ah (G3 1 nd PassesOwn.never rfl (J4 O7 hr (a9 (fY (a7 0) gL (gK ae)) ag (hs:=b9)))
  (ak (p8 (J1 (DU (bA 1 O8 hr aK))) (ak (aJ iI)) ba)))
  (ak (aJ iI)))) ?_
 intro ds d hl Lz;unfold EZ at Lz;split at Lz
 ·rename_i h;obtain⟨ns,rfl,h63⟩:=h;cases Lz;refine cJ ?_;simp!;obtain⟨rs,eP⟩:=hP (ns.take 5) (by rw[length_take];omega);have s1:xh (.list (ns.map .int)) none (some 5)=some (.list ((ns.take 5).map .int)):=by
   rw[map_take];exact DG (m:=5)
  have YK:yA 1 Fp (aO (lH (aH 0) jW (jV (fC (.int 5)))) bS) (bG [~~~.list (ns.map .int),none])=some (rs.map λr=>[r.1,r.2]):=by
   rw[<- eP];generalize Dat.list (ns.map .int)=R5 at *;generalize Dat.list ((ns.take 5).map .int)=dt at *;dsimp![yA,lH,jW,jV,rA,s1]
  generalize Dat.list (ns.map .int)=R5 at *;refine jR (I:=λΓ=>∃x1,Γ=[~~~(R5),x1]) (Nq YK ⟨_,rfl⟩ ?_) ?_
  ·rintro r0 Γ ⟨x1,rfl⟩;simp only[set_cons_succ,set_cons_zero];obtain⟨r1,eC⟩:=hC r0;have YL:Fc [.int r0.1,.int r0.2] []=some (.bool true,rD r1):=eC;refine d9 (aj:=[~~~(R5),some (.own (rD r1))]) (by simp![Lx,Qy,YL]) ⟨_,rfl⟩
  ·rintro aj ⟨x1,rfl⟩;simp![]
 ·cases Lz
theorem all_mk{lw:PySem.W.OpenLaw}{h:Heap}{fa:Addr}{od an:Option Addr}{sl:Array (Option Value)}{oc kV dc pm cd ct:Value}(X:K.In h)(G:h.Ns mainGlobals mg)(XD:mg "law"=some (.ref fa))(uj:FnAt K mg "common_divisor" (top 1) ["a","b"])(Rz:FnAt K mg "make" (top 2) ["n","d"])(Rx:FnAt K mg "plus" (top 3) ["a","b"])(O3:FnAt K mg "minus" (top 4) ["a","b"])(NZ:FnAt K mg "times" (top 5) ["a","b"])(Ry:FnAt K mg "over" (top 6) ["a","b"])(O4:FnAt K mg "below" (top 7) ["a","b"])(Ir:FnAt K mg "lowered" (top 11) ["numbers"])(Bx:FnAt K mg "whole_row" (top 12) ["kind","fractions"])(B7:FnAt K mg "first_rows" (top 13) ["parts","others"])(O1:FnAt K mg "mixed" (top 14) ["one","much","other","more"])(BB:FnAt K mg "equal_row" (top 15) ["rows","place"])(Ip:FnAt K mg "without" (top 16) ["row","equal","place"])(Kg:FnAt K mg "joined" (top 17) ["upper","lower","place"])(EJ:FnAt K mg "drawn_on" (top 18) ["one","other","weighed"])(Kf:FnAt K mg "paired" (top 19) ["rows","place","weighed","most"])(Bz:FnAt K mg "stages_of" (top 20) ["parts","others"])(BA:FnAt K mg "left_over" (top 21) ["row","point"])(EG:FnAt K mg "tightest" (top 22) ["rows","place","point","way"])(Kh:FnAt K mg "end_of" (top 23) ["stages","way"])(By:FnAt K mg "upper_end" (top 24) ["stages"])(wK:FnAt K mg "opposite_end" (top 25) ["stages"])(EI:FnAt K mg "is_never" (top 26) ["kind","bound"])(ui:FnAt K mg "never_by_a_row" (top 27) ["stages"])(vz:FnAt K mg "never_by_ends" (top 28) ["stages"])(O0:FnAt K mg "never" (top 29) ["stages"])(B6:FnAt K mg "least_told" (top 33) ["end"])(vA:FnAt K mg "greatest_told" (top 34) ["end"])(wJ:FnAt K mg "range_of_sum" (top 35) ["parts","others"])(EH:FnAt K mg "range_of" (top 36) ["place","many","others"])(wI:FnAt K mg "single_worth" (top 37) ["ends"])(Iq:FnAt K mg "what_is" (top 38) ["place","many","others"])(EK:FnAt K mg "_law_low" (top 42) ["n","d"])(BE:FnAt K mg "_law_plus" (top 43) ["a","b"])(B8:FnAt K mg "_law_times" (top 44) ["a","b"])(BF:FnAt K mg "_law_next" (top 40) ["pot","many"])(yg:FnAt K mg "_law_number" (top 46) ["pot"])(EL:FnAt K mg "_law_far" (top 48) ["pot"])(BD:FnAt K mg "_law_pots" (top 41) ["script"])(B9:FnAt K mg "_law_alike" (top 56) ["told","due"])(EO:FnAt K mg "_law_dot" (top 45) ["parts","point"])(Ba:FnAt K mg "_law_above" (top 47) ["pot"])(BC:FnAt K mg "_law_turn" (top 49) ["pot","many"])(ER:FnAt K mg "_law_box" (top 50) ["pot","many"])(wL:FnAt K mg "_law_as_line" (top 51) ["pot","kind","parts","bound"])(uk:FnAt K mg "_law_box_lines" (top 52) ["pot","new","box"])(yh:FnAt K mg "_law_looser" (top 53) ["pot","lines","most"])(yf:FnAt K mg "_law_shares" (top 54) ["back","parts"])(EM:FnAt K mg "_law_end" (top 55) ["shares","box","side"])(EN:FnAt K mg "_law_due" (top 57) ["back","box","place"])(BG:FnAt K mg "_law_case" (top 58) ["pot"])(rC:∃a,TC K mg "ZERO_elimination" [.int (0),.int (1)] a)(sN:∃a,TC K mg "ONE_elimination" [.int (1),.int (1)] a)(wH:∃a,TC K mg "ZERO_nearest" [.int (0),.int (1)] a)(ye:∃a,TC K mg "ONE_nearest" [.int (1),.int (1)] a)(a:nsIn K mainGlobals "law"=some (some (.ref f)))(l:K.lookup f=some ⟨oc,od,.func (fnOf "law" "law" (jN (top 59)) (df (top 59)) (aW (top 59)) .none kV dc pm an cd ct),sl⟩)(c:codeIn K cd "law"=true)(k:keepIn K (.ref f)=true)(T:TX lw.prog K mg)
  : ∃fd:FuncData,(∀(s:Shared) (v:Value),BindsTo s fd ⟨[v],[]⟩ [("script",v)])/\∀base:Heap,K.In base->base.Ns mainGlobals mg->gn lw.prog w K mg base gO 100 fa fd ["script"] (yq K):=by
 have e:=XD.symm.trans (mg_of X G a);cases e;obtain⟨_,iT⟩:=rC;obtain⟨_,sM⟩:=sN;obtain⟨_,oO⟩:=wH;obtain⟨_,yd⟩:=ye;refine⟨fnOf "law" "law" (jN (top 59)) (df (top 59)) (aW (top 59)) .none kV dc pm an cd ct,λs v=>.of_eq rfl,λbase _ _=>?_⟩;have Te:=As (st:=top 59) l c k;have D1:=Wv (P:=lw.prog) (w:=w) (base:=base) T uj;have D2:=Ri T D1 Rz;have D3:=Rc T D2 Rx;have D4:=NN T D2 O3;have D5:=NH T D2 NZ;have D6:=Rf T D2 Ry;have D7:=NU T D2 O4;obtain⟨G8,D8,Wk⟩:=HV T D1 Ir;obtain⟨G9,D9,XR⟩:=NF T D1 Bx;obtain⟨G10,ZD,Yf⟩:=NQ T iT sM (D9.up (by decide)) XR (D4.up (by decide)) B7;obtain⟨G11,Vr,QB⟩:=NM T D8 Wk O1;obtain⟨G12,ZC,Yh⟩:=NR (P:=lw.prog) (w:=w) (base:=base) T BB;obtain⟨G13,ZA,XO⟩:=HU T Vr QB Ip;obtain⟨G14,Zy,Yd⟩:=K5 T Vr QB Kg;obtain⟨G15,Zx,Yk⟩:=NT (P:=lw.prog) (w:=w) (base:=base) T EJ;obtain⟨G16,Zw,Y2⟩:=K0 T (Zx.up (by decide)) Yk (Zy.up (by decide)) Yd Kf;obtain⟨G17,Zv,XX⟩:=JX T (ZD.up (by decide)) Yf (ZC.up (by decide)) Yh (Zw.up (by decide)) Y2 (ZA.up (by decide)) XO Bz;obtain⟨G18,Zu,Yb⟩:=Rj T (D4.up (by decide)) (D5.up (by decide)) BA;obtain⟨G19,Zt,XW⟩:=NI T (Zu.up (by decide)) Yb (D6.up (by decide)) (D7.up (by decide)) (D2.up (by decide)) EG;obtain⟨G20,Vq,Uv⟩:=NS T iT (Zt.up (by decide)) XW Kh;obtain⟨Z0,Vp,Wg⟩:=NG T (Vq.up (by decide)) By;obtain⟨YZ,Vo,Wj⟩:=Rg T (Vq.up (by decide)) wK;have Ur:Dp 1 Z0:=λb n m Ls rows h1 h2 h3 h4 h5 h6 h7 h8=>Wg _ _ (Uv b n m Ls rows 1 (.inl rfl) h1 h2 h3 h4 h5 h6 h7 (by omega)).1;have Ut:Dp (-1) YZ:=λb n m Ls rows h1 h2 h3 h4 h5 h6 h7 h8=>Wj _ _ (Uv b n m Ls rows (-1) (.inr rfl) h1 h2 h3 h4 h5 h6 h7 (by omega)).1;obtain⟨G23,Vn,hIn⟩:=HW T iT (D7.up (by decide)) EI;obtain⟨G24,Zs,Y8⟩:=NL T (Vn.up (by decide)) hIn ui;obtain⟨G25,Zr,Y6⟩:=K2 T (Vp.up (by decide)) Ur (Vo.up (by decide)) Ut (Vn.up (by decide)) hIn (D3.up (by decide)) vz;obtain⟨G26,Zq,Y3⟩:=NK T (Zs.up (by decide)) Y8 (Zr.up (by decide)) Y6 O0;obtain⟨G27,Zp,Y9⟩:=NP T oO (D4.up (by decide)) B6;obtain⟨G28,Zo,Ye⟩:=Et (P:=lw.prog) (w:=w) (base:=base) T vA;obtain⟨G29,Zn,CI⟩:=Ra T (Zv.up (by decide)) XX (Zq.up (by decide)) Y3 (Vp.up (by decide)) Ur (Vo.up (by decide)) Ut (Zp.up (by decide)) Y9 (Zo.up (by decide)) Ye wJ;obtain⟨G31,Vm,Lw⟩:=NJ T oO yd (Zn.up (by decide)) CI EH
 obtain⟨G32,Zm,XY⟩:=JY (P:=lw.prog) (w:=w) (base:=base) T wI;obtain⟨G33,Zl,XQ⟩:=R8 T (Vm.up (by decide)) Lw (Zm.up (by decide)) XY Iq;have M9:=T3 (P:=lw.prog) (w:=w) (base:=base) T EK;have M8:=NO T M9 BE;have RY:=K3 T M9 B8;obtain⟨G43,vI,v7⟩:=Rh (P:=lw.prog) (w:=w) (base:=base) T BF;obtain⟨G44,Zk,Y4⟩:=K1 T (vI.up (by decide)) v7 (M9.up (by decide)) yg;obtain⟨G45,Zj,Yg⟩:=T5 T (vI.up (by decide)) v7 (Zk.up (by decide)) Y4 EL;obtain⟨G47,Zi,Y1⟩:=Rb (P:=lw.prog) (w:=w) (base:=base) T BD;obtain⟨G48,Zh,Ys⟩:=Dg (P:=lw.prog) (w:=w) (base:=base) T B9 5;obtain⟨G50,Zg,Ym⟩:=Rl T (M8.up (by decide)) (RY.up (by decide)) EO;obtain⟨G51,RX,QP⟩:=NV T (vI.up (by decide)) v7 (M9.up (by decide)) Ba;obtain⟨G52,Zf,XS⟩:=R9 T (vI.up (by decide)) v7 BC;obtain⟨G53,Ze,Yp⟩:=T7 T (vI.up (by decide)) v7 (Zj.up (by decide)) Yg (RX.up (by decide)) QP (M8.up (by decide)) ER;obtain⟨G54,Zd,Yr⟩:=K6 T (vI.up (by decide)) v7 (RX.up (by decide)) QP (RY.up (by decide)) wL;obtain⟨G55,Zc,Yq⟩:=Eu T (vI.up (by decide)) v7 (Zd.up (by decide)) Yr uk;obtain⟨G56,Zb,Ya⟩:=K4 T (vI.up (by decide)) v7 (RX.up (by decide)) QP (M8.up (by decide)) yh;obtain⟨G57,Za,XZ⟩:=JZ T (Zg.up (by decide)) Ym yf;obtain⟨G58,Z9,Yi⟩:=T6 T (M8.up (by decide)) (RY.up (by decide)) EM;obtain⟨G59,Z8,Yj⟩:=Rk T (Za.up (by decide)) XZ (Z9.up (by decide)) Yi EN;obtain⟨G60,Z7,QM⟩:=Rm T (vI.up (by decide)) v7 (Zf.up (by decide)) XS (Ze.up (by decide)) Yp (Zc.up (by decide)) Yq (Zb.up (by decide)) Ya (Zh.up (by decide)) Ys (Vm.up (by decide)) Lw (Zl.up (by decide)) XQ (Z8.up (by decide)) Yj BG;have DL:=T4 T (Zi.up (by decide)) Y1 (Z7.up (by decide)) QM Te;exact(PR DL λns hl=>by unfold EZ;exact if_pos ⟨ns,rfl,hl⟩).mono (by decide)
end
end Ve
namespace PySem.W.Fast
def tw4336597407406540340:=0
def tw8384645585624219714:=0
def tw13168966915046836601:=0
def tw2521879149725408667:=0
def tw2088782960569688359:=0
def tw11868687538547577129:=0
def tw6482522635524459574:=0
def tw13574501552947736268:=0
def tw8991994738545665018:=0
def tw10443934979345984519:=0
def tw5633719336074676853:=0
def tw4988863033453402251:=0
def tw6163136952713770755:=0
def tw2884064266540658153:=0
def tw14262110472593682577:=0
def tw14995427236874381454:=0
def tw8133536562345173704:=0
def tw5668023984641442076:=0
def tw5482367097631967667:=0
def tw10994089852576035105:=0
def tw14264722824415595400:=0
def tw8164551604403379280:=0
def tw705424938239245850:=0
def tw3932349013885632586:=0
def tw9486291072614463841:=0
def tw8227336923753752466:=0
def tw5218409193703215903:=0
def tw4538546269933720349:=0
def tw7213799142503736971:=0
def tw10127031954937106795:=0
def tw1046870378313986480:=0
def tw4779756843635469456:=0
def tw12197185260754863046:=0
def tw11618518347991492917:=0
def tw9019091580425060216:=0
def tw4758396780884845676:=0
def tw3378080917986895232:=0
def tw17171557253644287408:=0
def tw10390161951097652065:=0
def tw16192681097058607082:=0
def tw3756706785336486937:=0
def tw8932779987444134524:=0
def tw4450462195533282480:=0
def tw8824353253140764571:=0
def tw1509281523543521268:=0
def tw8601958564031074773:=0
def tw15175327625964496215:=0
def tw13418313603421465109:=0
def tw2310654805656186464:=0
def tw14193907373668074425:=0
def tw1102269273449282794:=0
def tw3289954075341533224:=0
def tw18376803065327249193:=0
def tw10838956705566039019:=0
def tw6648656464291164509:=0
def tw2080274088398911560:=0
def tw4925440874981191616:=0
def tw3807705849855268280:=0
def tw10279460065560521425:=0
def tw9141752906660260298:=0
end PySem.W.Fast
open PySem PySem.W PyProof.Rows
local macro_rules | `(tactic| simp_all!) => `(tactic| (refine' L3.Wr (by assumption) (by assumption) ?a ?l ?c ?k ?b; (case a => k_is); (case l => k_is); (case c => k_is); (case k => k_is); (case b => intro _ _ _ _ _ _ us hl; rcases us with _ | ⟨_, _ | ⟨_, _ | ⟨_, _ | ⟨_, _ | ⟨_, _ | ⟨_, _⟩⟩⟩⟩⟩⟩ <;> first | rfl | cases hl)))
set_option maxRecDepth 100000 in
set_option maxHeartbeats 0 in
theorem PySem.Challenge.cw_stepjudge_k29_ranges_of_turned_boxes_holds : PySem.Challenge.rw_stepjudge_k29_ranges_of_turned_boxes.Holds := by
 w_on;o_law;x_head;(case hw=>w_witness2)
 k_fill
 refine L3.S6 (k:=1) (by decide) (l:=PySem.Challenge.rw_stepjudge_k29_ranges_of_turned_boxes) rfl rfl (λw h Y=>PySem.W.kIn_of Y) ?F;case F=>
  intro w mg fa h KX G Hf;refine' Ve.all_mk KX G Hf ?u1 ?u2 ?u3 ?u4 ?u5 ?u6 ?u7 ?u8 ?u9 ?u10 ?u11 ?u12 ?u13 ?u14 ?u15 ?u16 ?u17 ?u18 ?u19 ?u20 ?u21 ?u22 ?u23 ?u24 ?u25 ?u26 ?u27 ?u28 ?u29 ?u30 ?u31 ?u32 ?u33 ?u34 ?u35 ?u36 ?u37 ?u38 ?u39 ?u40 ?u41 ?u42 ?u43 ?u44 ?u45 ?u46 ?u47 ?u48 ?u49 ?u50 ?u51 ?t1 ?t2 ?t3 ?t4 ?a ?l ?c ?k ⟨?se,mg_none_of KX G ?z1,mg_none_of KX G ?z2,mg_none_of KX G ?z3,mg_none_of KX G ?z4,mg_none_of KX G ?z5,mg_none_of KX G ?z6,mg_none_of KX G ?z7,mg_none_of KX G ?z8,mg_none_of KX G ?z9,mg_none_of KX G ?z10,mg_none_of KX G ?z11,mg_none_of KX G ?z12,mg_none_of KX G ?z13⟩
  (case se=>refine' L3.Mv KX G rfl ?s1 ?s3 ?s4 ?s5 ?s7 ?s8 ?s9 ?s2 ?s6;(case s1=>k_is);(case s3=>k_is);(case s4=>k_is);(case s5=>k_is);(case s7=>k_is);(case s8=>k_is);(case s9=>k_is);(case s2=>rfl);(case s6=>rfl))
  case u1|u2|u3|u4|u5|u6|u7|u8|u9|u10|u11|u12|u13|u14|u15|u16|u17|u18|u19|u20|u21|u22|u23|u24|u25|u26|u27|u28|u29|u30|u31|u32|u33|u34|u35|u36|u37|u38|u39|u40|u41|u42|u43|u44|u45|u46|u47|u48|u49|u50|u51=>simp_all!
  case t1|t2|t3|t4=>refine' L3.ym KX G ?ta ?tl;(case ta=>k_is);(case tl=>k_is)
  case a|l|c|k=>k_is
  case z1|z2|z3|z4|z5|z6|z7|z8|z9|z10|z11|z12|z13=>k_is
