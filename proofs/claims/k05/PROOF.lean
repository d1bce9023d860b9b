import PyProof.Rows.All
import Wide.All
import OpenK.AllK
import Wide.FinOn
import Lean
import PyProof.EqAt
import PyProof.EqKinds
import PyProof.TupleCall
import KE.KDictList
import PyProof.ToksMono
import PyProof.StrCalls6
import PyProof.StrLawsTight
import PyProof.StrBlockL
import PyProof.StrLaws
import KE.KMinKey
import PyProof.ListRange
import PyProof.Rows.ReprOcc
import PyProof.Rows.StrClose
import PyProof.ExcClass3
import PyProof.StationsW
import OpenK.KRaise
import PyProof.Rows.Own
import PyProof.Rows.FStr
import PyProof.ExcBaseAll.ValueError
import OpenK.KOwn
import PyProof.RulesAs
import PyProof.NsDelKeeps
import PyProof.Rows.Catch
import KE.KIsAll
import PyProof.ExcAttrAll.ValueError
import PyProof.StrBlock2
import PySem.Challenge.RW_stepjudge_k05_sums_refused
open PySem.W (methodObj hideAll hideAll_get of_hideAll keepIn callWith_K cellsFrom_some fnOf codeIn codeRec_of kitOne kia_one nsIn mg_of excIn subIn mg_none_of)
open PySem.Heap (lt_size SameBut get?_push_of_some get?_push_size size_push Ns FlyingW)
open Nat (lt_of_lt_of_le lt_irrefl ne_of_lt le_trans le_of_lt ne_of_gt le_refl lt_of_le_of_lt le_succ not_lt le_succ_of_le zero_le mul_le_mul_left lt_trans succ_pos)
open List (mem_filter filterMap_cons mem_cons_self mem_cons_of_mem mem_cons append_assoc mem_append mem_append_left getElem?_set_self getElem?_set_ne mem_filterMap mem_append_right size_toArray append_nil nodup_cons of_mem_zip length_take getElem?_append_right getElem?_append_left getElem?_map length_append length_map length_drop all_cons any_cons length_singleton map_nil map_cons find?_cons lookup_cons length_set drop_zero drop_eq_nil_of_le length_range getElem?_eq_getElem not_mem_nil mem_map mem_singleton countP_cons toList_toArray foldl_append take_of_length_le map_map map_append length_cons drop_drop length_eq_zero_iff range' drop_left map_congr_left append_eq_nil_iff flatMap_cons cons_append nil_append all_eq_true sum_cons length_range' nodup_nil contains_iff_mem getElem_mem)
open Array (length_toList toList)
open Option (isSome_iff_exists isSome_some map_eq_some_iff map_some)
open Int (toNat_natCast ediv_one gcd gcd_dvd_left gcd_dvd_right mul_assoc mul_comm natAbs_mul natAbs_natCast mul_pos toNat_of_nonneg)
open Bool (and_eq_true eq_false_iff and_eq_true_iff false_eq_true or_eq_true_iff decide_and)
open PySem.F (plainAttrs_list plainAttrs_str slot_str_split type_str_split excBase_ValueError)
set_option Elab.async false
set_option linter.all false
set_option bootstrap.genMatcherCode false
set_option genSizeOfSpec false
set_option maxRecDepth 100000
namespace L2
noncomputable section
open PySem PySem.Spec PyProof.Rows
noncomputable abbrev Key:=Sum Int Str
noncomputable def xI:Key->Value->Bool
 | .inl k,v=>Value.isInt k v
 | .inr x,v=>Value.isStrOf x v
noncomputable def UA (w:World):Key->Int
 | .inl k=>hashInt k
 | .inr x=>hashStr w x
theorem fG:∀{k:Key} {v:Value},xI k v=true->(∃i t,k=Sum.inl i/\v=Value.int i t)\/(∃x t,k=Sum.inr x/\v=Value.str x t)
 | .inl i,v,h=>by
  obtain⟨t,e⟩:=Value.isInt_shape (k:=i) (v:=v) h;exact .inl ⟨i,t,rfl,e⟩
 | .inr x,v,h=>by
  obtain⟨t,e⟩:=Value.isStrOf_shape (x:=x) (v:=v) h;exact .inr ⟨x,t,rfl,e⟩
theorem Ea(x:Str)(t:Tok):xI (.inr x) (.str x t)=true:=by simp[xI,Value.isStrOf]
theorem NA(a b:Int):decide ((Sum.inl a:Key)=Sum.inl b)=(a==b):=by
 by_cases e:a=b
 ·subst e;simp
 ·have h:¬(Sum.inl a:Key)=Sum.inl b:=λq=>e (Sum.inl.inj q);rw[decide_eq_false h];exact(beq_eq_false_iff_ne.mpr e).symm
theorem Nx(a b:Str):decide ((Sum.inr a:Key)=Sum.inr b)=decide (a=b):=by
 by_cases e:a=b
 ·subst e;simp
 ·have h:¬(Sum.inr a:Key)=Sum.inr b:=λq=>e (Sum.inr.inj q);rw[decide_eq_false h,decide_eq_false e]
theorem Nz(a:Int)(b:Str):decide ((Sum.inl a:Key)=Sum.inr b)=false:=decide_eq_false (λq=>nomatch q)
theorem Ny(a:Str)(b:Int):decide ((Sum.inr a:Key)=Sum.inl b)=false:=decide_eq_false (λq=>nomatch q)
noncomputable def jj (prog:Program) (w:World):PySem.KeyKind prog w Key where
 is:=xI
 hash:=UA w
 inj:=λv a b ha hb=>by
  rcases fG ha with⟨i,t,rfl,rfl⟩|⟨x,t,rfl,rfl⟩
  ·rcases fG hb with⟨j,u,rfl,e⟩|⟨y,u,rfl,e⟩
   ·injection e with e1 _;rw[e1]
   ·exact nomatch e
  ·rcases fG hb with⟨j,u,rfl,e⟩|⟨y,u,rfl,e⟩
   ·exact nomatch e
   ·injection e with e1 _;rw[e1]
 byValue:=λk v h=>by
  rcases fG h with⟨i,t,rfl,rfl⟩|⟨x,t,rfl,rfl⟩<;>rfl
 pyHash:=λhv h=>by
  rcases fG hv with⟨i,t,rfl,rfl⟩|⟨x,t,rfl,rfl⟩
  ·exact wpAny_pyHash_int h
  ·exact wpAny_pyHash_str h
 eqBool:=λhu hv h=>by
  rcases fG hu with⟨i,t,rfl,rfl⟩|⟨x,t,rfl,rfl⟩
  ·rcases fG hv with⟨j,u,rfl,rfl⟩|⟨y,u,rfl,rfl⟩
   ·rw[NA]at h;exact wpAny_eqBool_int h
   ·rw[Nz]at h;exact SeqAt.EqAt.int_str i t y u _ _ _ _ h
  ·rcases fG hv with⟨j,u,rfl,rfl⟩|⟨y,u,rfl,rfl⟩
   ·rw[Ny]at h;exact SeqAt.EqAt.str_int x t j u _ _ _ _ h
   ·rw[Nx]at h;exact wpAny_eqBool_str h
 «strs»:=λk x t v h=>by
  rcases fG h with⟨i,u,rfl,e⟩|⟨y,u,rfl,e⟩
  ·exact nomatch e
  ·injection e with e1 _;subst e1;cases v<;>rfl
theorem o7(prog:Program)(w:World)(x:Str)(t:Tok):(jj prog w).is (.inr x) (.str x t)=true:=Ea x t
open PySem PySem.Spec PyProof.Rows
inductive V where
 |bU|bl (b:Bool)|int (i:Int)|str (x:Str)|nH (b:Array UInt8)|Oq (b:UInt64)|ref (a:Addr)|ty (n:String)
 deriving DecidableEq
noncomputable def RelV:V->Value->Prop
 | .bU,u=>u=Value.none
 | .bl b,u=>u=Value.bool b
 | .int i,u=>∃t,u=Value.int i t
 | .str x,u=>∃t,u=Value.str x t
 | .nH b,u=>∃t,u=Value.bytes b t
 | .Oq b,u=>∃t,u=Value.float b t
 | .ref a,u=>u=Value.ref a
 | .ty n,u=>u=Value.type n
noncomputable abbrev Vals:List V->List Value->Prop:=Paired RelV
variable {xs:List V} {us:List Value}
theorem Vals.length(r:Vals xs us):xs.length=us.length:=Paired.length r
theorem Vals.get:∀{xs:List V} {us:List Value} {i:Nat} {x:V},Vals xs us->xs[i]?=some x->∃u,us[i]?=some u/\RelV x u
 |_,_,_,_,.nil,e=>by simp at e
 |_,_,0,_,.cons r _,e=>by simp at e;subst e;exact⟨_,rfl,r⟩
 |_,_,i+1,x,.cons _ t,e=>by
  obtain⟨u,h1,h2⟩:=Vals.get (i:=i) (x:=x) t (by simpa using e);exact⟨u,by simpa using h1,h2⟩
theorem Vals.append:∀{xs ys:List V} {us ws:List Value},Vals xs us->Vals ys ws->Vals (xs++ys) (us++ws)
 |_,_,_,_,.nil,s=>s
 |_,_,_,_,.cons r t,s=>.cons r (Vals.append t s)
theorem Vals.take:∀{xs:List V} {us:List Value} (n:Nat),Vals xs us->Vals (xs.take n) (us.take n)
 |_,_,0,_=>.nil
 |_,_,_+1,.nil=>.nil
 |_,_,n+1,.cons r t=>.cons r (Vals.take n t)
theorem Vals.drop:∀{xs:List V} {us:List Value} (n:Nat),Vals xs us->Vals (xs.drop n) (us.drop n)
 |_,_,0,r=>r
 |_,_,_+1,.nil=>.nil
 |_,_,n+1,.cons _ t=>Vals.drop n t
noncomputable def qT:Option V->Option Value->Prop
 |some v,some u=>RelV v u
 |none,none=>True
 |_,_=>False
noncomputable def KV {κ:Type}:List (κ×V)->List (κ×Value)->Prop:=Paired fun(p:κ×V) (q:κ×Value)=>p.1=q.1/\RelV p.2 q.2
noncomputable def kV:Key->V
 | .inl i=>.int i
 | .inr x=>.str x
inductive HO where
 /-- a list -/
 |lst (xs:List V)
 /-- a tuple (never changes) -/
 |tup (xs:List V)
 /-- a dict Q3 keys are ints and texts;one Q3 keys are tuples of ints and texts (Ax empty one is both) -/
 |dK (cc:List (Key×V))|dT (cc:List (List Key×V))
 /-- a set of ints: aA members,aA size -/
 |set (S:Int->Bool) (n:Nat)
 /-- an instance of Ax class at C,aA dict at dx,aA attributes -/
 |ins (C dx:Addr) (fs:List (Str×V))
 /-- Ax dict of Ax instance at x -/
 |own (x:Addr)
 /-- Ax dict of an exception -/
 |xd (fs:List (Str×V))
 /-- a bound method,f of x -/
 |met (f x:Addr)
 /-- a range object lo,lo+1,.. below hi -/
 |Ir (lo hi:Int)
 /-- a Qd that is known to Ax object (Ax script;a dict Q4 a loop walks it): read,never written Q4 it is so -/
 |jt (o:Obj) (u:HO)
 /-- a code object's table -/
 |mj (ps:Array Value)
 /-- any other Qd,by what is true of aA one object (a def of one's own: SetO a S n:=HO.ext λh=>..) -/
 |ext (φ:Heap->Prop)
noncomputable abbrev Hp:=Addr->Option HO
noncomputable def upd (H:Hp) (a:Addr) (o:HO):Hp:=λb=>if b=a then some o else H b
variable {H:Hp} {a:Addr} {o:HO}
theorem d5:upd H a o a=some o:=by unfold upd;rw[if_pos rfl]
variable {b:Addr}
theorem bF(h:b≠a):upd H a o b=H b:=by unfold upd;rw[if_neg h]
theorem aU(h:H a=some o)(h':H b=none):a≠b:=by
 intro e;subst e;rw[h]at h';cases h'
section
variable (P:Program) (w:World)
noncomputable def iJ (H:Hp) (h:Heap) (a:Addr):HO->Prop
 | .lst xs=>xs.length<=sizeLine/\∃(aA:List Value) (n:Nat),Vals xs aA/\h.get? a=some {cls:=.type "list",data:=.seq aA.toArray n}
 | .tup xs=>xs.length<=sizeLine/\∃aA:List Value,Vals xs aA/\IsTup h a aA.toArray
 | .dK cc=>cc.length<=sizeLine/\(a==sysModules)=false/\∃vs,KV cc vs/\h.DictOf (jj P w) a vs
 | .dT cc=>cc.length<=sizeLine/\(a==sysModules)=false/\∃xs:List (List Key×Addr×Value),
   Paired (fun(p:List Key×V) (q:List Key×Addr×Value)=>p.1=q.1/\H q.2.1=some (.tup (p.1.map kV))/\RelV p.2 q.2.2) cc xs/\
   ∃o es ep,h.get? a=some o/\o.ExactDict/\o.data=.dict es ep/\es.toList=xs.map (entryOfKey (tupleKind (jj P w)))/\(xs.map (·.1)).Nodup
 | .set S n=>h.SetOf (intKind P w) a S n
 | .ins C dx fs=>H dx=some (.own a)/\fs.length<=1000/\dx≠a/\h.get? a=some (PySem.W.instObj C dx)/\
   ∃mA,h.Ns1 dx mA/\(∀f,qT (fs.lookup f) (mA f))/\PySem.Within mA (fs.map (·.1))
 | .own _=>∃o,h.get? a=some o
 | .xd fs=>∃mA,h.Ns1 a mA/\∀f,qT (fs.lookup f) (mA f)
 | .Ir lo hi=>∃t u v,h.get? a=some {cls:=.type "range",data:=.fields #[.int lo t,.int hi u,.int 1 v]}
 | .jt o u=>h.get? a=some o/\iJ H h a u
 | .mj ps=>h.get? a=some {cls:=.none,data:=.fields ps}
 | .met f x=>h.get? a=some (methodObj (.ref f) (.ref x))
 | .ext φ=>φ h/\(∃o,h.get? a=some o)/\∀h1 h2:Heap,φ h1->(∀o,h1.get? a=some o->h2.get? a=some o)->φ h2
def gA (H:Hp) (h:Heap):Prop:=∀a o,H a=some o->iJ P w H h a o
end
variable {P:Program} {w:World} {h:Heap}
theorem iJ.lt(x:iJ P w H h a o):a<h.objs.size:=by
 cases o with
 |lst xs=>obtain⟨_,_,_,_,e⟩:=x;exact lt_size e
 |tup xs=>obtain⟨_,_,_,p⟩:=x;exact p.lt
 |dK cc=>obtain⟨_,_,_,_,o,_,_,e,_⟩:=x;exact lt_size e
 |dT cc=>obtain⟨_,_,_,_,o,_,_,e,_⟩:=x;exact lt_size e
 |set S n=>obtain⟨o,_,_,_,e,_⟩:=x;exact lt_size e
 |ins C dx fs=>obtain⟨_,_,_,e,_⟩:=x;exact lt_size e
 |own y=>obtain⟨_,e⟩:=x;exact lt_size e
 |xd fs=>obtain⟨_,⟨_,_,_,e,_⟩,_⟩:=x;exact lt_size e
 |Ir lo hi=>obtain⟨_,_,_,e⟩:=x;exact lt_size e
 |jt ob u=>obtain⟨e,_⟩:=x;exact lt_size e
 |mj ps=>exact lt_size (show h.get? a=some _ from x)
 |met f y=>exact lt_size (show h.get? a=some _ from x)
 |ext φ=>obtain⟨_,⟨_,e⟩,_⟩:=x;exact lt_size e
theorem Paired.Nn{α β:Type}{F G:α->β->Prop}:∀{Nr:List α} {Nq:List β},Paired F Nr Nq->(∀a b,F a b->G a b)->Paired G Nr Nq
 |_,_,.nil,_=>.nil
 |_,_,.cons r t,f=>.cons (f _ _ r) (Paired.Nn t f)
variable {H':Hp} {h':Heap}
theorem iJ.mW(x:iJ P w H h a o)(k:∀b u,(b=a\/H b=some (.own a))->h.get? b=some u->h'.get? b=some u)(ho:∀b,H b=some (.own a)->H' b=some (.own a))(ht:∀b xs,H b=some (.tup xs)->H' b=some (.tup xs)):iJ P w H' h' a o:=by
 induction o with
 |lst xs=>obtain⟨z,aA,n,r,e⟩:=x;exact⟨z,aA,n,r,k _ _ (.inl rfl) e⟩
 |tup xs=>obtain⟨z,aA,r,ob,e,c⟩:=x;exact⟨z,aA,r,ob,k _ _ (.inl rfl) e,c⟩
 |dK cc=>obtain⟨z,y,vs,r,ob,es,ep,e,c⟩:=x;exact⟨z,y,vs,r,ob,es,ep,k _ _ (.inl rfl) e,c⟩
 |dT cc=>
  obtain⟨z,y,xs,r,ob,es,ep,e,c⟩:=x;exact⟨z,y,xs,Paired.Nn r λp q z=>⟨z.1,ht _ _ z.2.1,z.2.2⟩,ob,es,ep,k _ _ (.inl rfl) e,c⟩
 |set S n=>obtain⟨ob,es,ep,t,e,c⟩:=x;exact⟨ob,es,ep,t,k _ _ (.inl rfl) e,c⟩
 |ins C dx fs=>
  obtain⟨d,z,ne,e,mA,⟨od,es,ep,e2,c⟩,r⟩:=x;exact⟨ho _ d,z,ne,k _ _ (.inl rfl) e,mA,⟨od,es,ep,k _ _ (.inr d) e2,c⟩,r⟩
 |own y=>obtain⟨ob,e⟩:=x;exact⟨ob,k _ _ (.inl rfl) e⟩
 |xd fs=>obtain⟨mA,⟨od,es,ep,e,c⟩,r⟩:=x;exact⟨mA,⟨od,es,ep,k _ _ (.inl rfl) e,c⟩,r⟩
 |Ir lo hi=>obtain⟨t,u,v,e⟩:=x;exact⟨t,u,v,k _ _ (.inl rfl) e⟩
 |jt ob u ih=>obtain⟨e,q⟩:=x;exact⟨k _ _ (.inl rfl) e,ih q⟩
 |mj ps=>
  have e:h.get? a=some {cls:=.none,data:=.fields ps}:=x;show h'.get? a=some {cls:=.none,data:=.fields ps};exact k a _ (.inl rfl) e
 |met f y=>
  have e:h.get? a=some (methodObj (.ref f) (.ref y)):=x;show h'.get? a=some (methodObj (.ref f) (.ref y));exact k a _ (.inl rfl) e
 |ext φ=>obtain⟨p,⟨o,e⟩,st⟩:=x;exact⟨st _ _ p λo q=>k _ _ (.inl rfl) q,⟨o,k _ _ (.inl rfl) e⟩,st⟩
theorem gA.lt(x:gA P w H h)(e:H a=some o):a<h.objs.size:=(x a o e).lt
theorem gA.fresh(x:gA P w H h)(e:h.objs.size<=a):H a=none:=by
 cases q:H a with
 |none=>rfl
 |some u=>exact absurd (lt_of_lt_of_le (x.lt q) e) (lt_irrefl _)
theorem gA.kept(x:gA P w H h)(k:∀b u,h.get? b=some u->h'.get? b=some u):gA P w H h':=λa o e=>
 (x a o e).mW (λb u _ q=>k b u q) (λ_ q=>q) λ_ _ q=>q
theorem gA.laid(x:gA P w H h)(k:∀b u,h.get? b=some u->h'.get? b=some u)(hp:h.objs.size<=a)(new:iJ P w (upd H a o) h' a o):gA P w (upd H a o) h':=λb u e=>by
 have hn:=x.fresh hp;by_cases hb:b=a
 ·subst hb;rw[d5]at e;cases e;exact new
 ·rw[bF hb]at e;exact(x b u e).mW (λc v _ q=>k c v q) (λc q=>by rw[bF (aU q hn)];exact q) λc xs q=>by rw[bF (aU q hn)];exact q
def Rd (H:Hp) (a:Addr) (u:HO):Prop:=H a=some u\/∃o,H a=some (.jt o u)
theorem Rd.ok{u:HO}(r:Rd H a u)(x:gA P w H h):iJ P w H h a u:=by
 rcases r with r|⟨o,r⟩
 ·exact x a u r
 ·obtain⟨_,q⟩:=x a _ r;exact q
noncomputable def JJ:Option HO->Prop
 |some (.lst _)=>True
 |some (.dK _)=>True
 |some (.dT _)=>True
 |some (.set _ _)=>True
 |some (.ins _ _ _)=>True
 |some (.ext _)=>True
 |_=>False
variable {e x:Addr} {o':HO}
theorem gA.write(ok:gA P w H h)(mu:JJ (H x))(he:e=x\/H e=some (.own x))(k:∀b u,b≠e->h.get? b=some u->h'.get? b=some u)(Bg:∃u,h'.get? e=some u)(new:iJ P w (upd H x o') h' x o'):gA P w (upd H x o') h':=λb u q=>by
 have N9:∀c y,H c=some (.own y)->c≠x:=λc y r z=>by subst z;rw[r]at mu;exact mu
 have Ut:∀c xs,H c=some (.tup xs)->c≠x:=λc xs r z=>by subst z;rw[r]at mu;exact mu
 by_cases hb:b=x
 ·subst hb;rw[d5]at q;cases q;exact new
 ·rw[bF hb]at q;by_cases zx:b=e
  ·have q':H b=some (.own x):=by
    rcases he with z|z
    ·exact absurd (zx.trans z) hb
    ·rw[zx];exact z
   rw[q]at q';cases q';obtain⟨v,hv⟩:=Bg;exact⟨v,by rw[zx];exact hv⟩
  ·refine(ok b u q).mW (λc v hc r=>k c v ?_ r) (λc r=>by rw[bF (N9 c b r)];exact r) λc xs r=>by rw[bF (Ut c xs r)];exact r
   rcases hc with rfl|hc
   ·exact zx
   ·rintro rfl;rcases he with z|z
    ·exact N9 c b hc z
    ·rw[hc]at z;cases z;exact hb rfl
structure Un (fs ex:List Addr) (H H':Hp) (h h':Heap):Prop where
 keep:∀b o,h.get? b=some o->H b=none->b∉fs->b∉ex->h'.get? b=some o
 slot:∀b o,h.get? b=some o->H b=none->b∈fs->b∉ex->∃sl,h'.get? b=some {o with slots:=sl}
 free:∀b o,h.get? b=some o->H b=none->b∉ex->H' b=none
 there:∀b o,h.get? b=some o->b∉ex->∃o',h'.get? b=some o'
 tups:∀b xs,H b=some (.tup xs)->H' b=some (.tup xs)
 frzs:∀b o u,H b=some (.jt o u)->H' b=some (.jt o u)
 tbls:∀b ps,H b=some (.mj ps)->∃more,H' b=some (.mj (ps++more))
variable {h1:Heap} {H1:Hp} {ex:List Addr}
variable {fs:List Addr} in
theorem Un.any(u:Un fs ex H H1 h h1){ob:Obj}(q:h.get? b=some ob)(n:H b=none)(hx:b∉ex):∃sl,h1.get? b=some {ob with slots:=sl}:=by
 by_cases hb:b∈fs
 ·exact u.slot b ob q n hb hx
 ·exact⟨ob.slots,u.keep b ob q n hb hx⟩
variable {fs:List Addr} in
theorem Un.kept(k:∀b u,h.get? b=some u->h'.get? b=some u):Un fs ex H H h h':=
 ⟨λb ob q _ _ _=>k b ob q,λb ob q _ _ _=>⟨ob.slots,k b ob q⟩,λ_ _ _ n _=>n,λb ob q _=>⟨ob,k b ob q⟩,λ_ _ q=>q,λ_ _ _ q=>q,λ_ ps q=>⟨#[],by rw[q];simp⟩⟩
variable {fs:List Addr} in
theorem Un.refl:Un fs ex H H h h:=Un.kept λ_ _ q=>q
variable {fs:List Addr} in
theorem Un.laid(k:∀b u,h.get? b=some u->h'.get? b=some u)(hp:h.objs.size<=a)(hn:H a=none):Un fs ex H (upd H a o) h h' where
 keep:=λb u q _ _ _=>k b u q
 slot:=λb u q _ _ _=>⟨u.slots,k b u q⟩
 free:=λb u q n _=>by rw[bF (ne_of_lt (lt_of_lt_of_le (lt_size q) hp))];exact n
 there:=λb u q _=>⟨u,k b u q⟩
 tups:=λb xs q=>by rw[bF (aU q hn)];exact q
 frzs:=λb u xs q=>by rw[bF (aU q hn)];exact q
 tbls:=λb ps q=>⟨#[],by rw[bF (aU q hn),q];simp⟩
variable {fs:List Addr} in
theorem Un.write(mu:JJ (H x))(he:e=x\/H e=some (.own x))(k:∀b u,b≠e->h.get? b=some u->h'.get? b=some u)(Bg:∃u,h'.get? e=some u):Un fs ex H (upd H x o) h h':=by
 have hx:∀b,H b=none->b≠x:=λb n z=>by subst z;rw[n]at mu;exact mu
 have hb:∀b,H b=none->b≠e:=λb n z=>by
  subst z;rcases he with r|r
  ·exact hx b n r
  ·rw[n]at r;cases r
 have hm:∀b u,H b=some u->¬JJ (some u)->b≠x:=λb u q nm z=>by subst z;rw[q]at mu;exact nm mu
 refine⟨λb u q n _ _=>k b u (hb b n) q,λb u q n _ _=>⟨u.slots,k b u (hb b n) q⟩,λb u q n _=>by rw[bF (hx b n)];exact n,λb u q _=>?_,
  λb xs q=>by rw[bF (hm b _ q λz=>z)];exact q,λb u xs q=>by rw[bF (hm b _ q λz=>z)];exact q,λb ps q=>⟨#[],by rw[bF (hm b _ q λz=>z),q];simp⟩⟩
 by_cases zx:b=e
 ·subst zx;exact Bg
 ·exact⟨u,k b u zx q⟩
noncomputable def Ii (h:Heap) (H:Hp):List Addr:=(List.range h.objs.size).filter λa=>(H a).isSome
noncomputable def pG (h:Heap) (H:Hp):Heap:=hideAll h (Ii h H)
theorem Ep(h:Heap)(H:Hp):(pG h H).objs.size=h.objs.size:=PySem.W.hideAll_size _ _
variable {o:Obj}
theorem Hm(e:h.get? b=some o)(n:H b=none):(pG h H).get? b=some o:=
 hideAll_get _ e λhm=>by
  have q:(H b).isSome=true:=(mem_filter.mp hm).2;rw[n]at q;simp at q
theorem KL(e:(pG h H).get? b=some o):h.get? b=some o/\H b=none:=by
 have e':h.get? b=some o:=of_hideAll (Ii h H) e;refine⟨e',?_⟩;cases q:H b with
 |none=>rfl
 |some x=>
  have hm:b∈Ii h H:=mem_filter.mpr ⟨List.mem_range.mpr (lt_size e'),by simp[q]⟩;have z:(pG h H).get? b=none:=PySem.W.hideAll_none (Ii h H) hm;rw[z]at e;cases e
open PySem PySem.Spec PyProof.Rows
structure Mod (K:PySem.W.Frag) (mg:Str->Option Value) (base:Heap):Prop where
 zg:K.In base
 glob:base.Ns mainGlobals mg
 blt:∃mb,base.Ns builtinsNs mb/\∀x:Str,x≠"__name__"->mb x=bootBuiltins x
 nolimit:base.NoLimit
structure Cx where
 prog:Program
 w:World
 K:PySem.W.Frag
 mg:Str->Option Value
 base:Heap
 A:Around
 N:List Str
 aC:Shared
 aq:Hp
 env:Env
 outer:List Env
 stack:List Env
 ex:List Addr
 fn:Str->Bool
 calm:Bool
 pn:List (Addr×Obj)
 xe:Value->Shared->Prop
noncomputable def frs (l:List Env):List Addr:=l.filterMap (·.frame)
noncomputable abbrev Cx.fs (X:Cx):List Addr:=frs X.outer
def oN (sc:Scope) (x:Str):Prop:=sc.names.lookup x=some .local\/sc.names.lookup x=some .cell\/sc.names.lookup x=some .free
def Loc (sc:Scope) (x:Str):Prop:=sc.names.lookup x=some .local\/sc.names.lookup x=some .cell
def Look (env:Env) (h:Heap) (m:Str->Option Value) (x:Str) (u:Value):Prop:=
 (env.kindOf x=some .local/\m x=some u)\/((env.kindOf x=some .cell\/env.kindOf x=some .free)/\∃c,env.cells.lookup x=some c/\h.IsCell c (some u))
structure Cx.Ok (X:Cx):Prop where
 mod:Mod X.K X.mg X.base
 kind:X.env.scope.kind=.function
 glob:X.env.globals=mainGlobals
 blt:X.env.builtins=builtinsNs
 above:X.aC.heap.objs.size<=X.env.locals
 inj:∀x y c,X.env.cells.lookup x=some c->X.env.cells.lookup y=some c->x=y
 has:∀x,(X.env.kindOf x=some .cell\/X.env.kindOf x=some .free)->∃c,X.env.cells.lookup x=some c
 Fj:∀x c,X.fn x=true->X.env.cells.lookup x=some c->X.aC.heap.objs.size<=c
 hd:X.calm=true->X.A.handled=none
 frames:X.A.frames=some X.stack
 stk:X.stack=X.outer\/(X.stack=X.env::X.outer/\X.env.frame=some X.env.locals)
 Bs:∀b∈X.ex,b≠X.env.locals/\∀x c,X.env.cells.lookup x=some c->c≠b
 bs:∀b o,X.base.get? b=some o->X.aC.heap.get? b=some o/\X.aq b=none
 xb:X.base.objs.size<=X.aC.heap.objs.size
 vE:∀b o,X.base.get? b=some o->b∉X.ex
 vL:∀b∈X.ex,b∉X.fs
 la:X.aC.heap.FunFrames X.base X.outer
 Bo:∀b∈X.fs,X.aq b=none
structure Inv (X:Cx) (pins:List (Addr×Obj)) (σ:List (Option V)) (H:Hp) (s:Shared):Prop where
 ok:X.Ok
 os:s.os=X.aC.os
 bare:AllBare s.gens
 base:Un X.fs X.ex X.aq H X.aC.heap s.heap
 loc:∃m,s.heap.Ns X.env.locals m/\∀(i:Nat) (x:Str) (v:V),X.N[i]?=some x->σ[i]?=some (some v)->oN X.env.scope x->∃u,RelV v u/\Look X.env s.heap m x u
 cell:∀x c,X.env.cells.lookup x=some c->∃v,s.heap.IsCell c v
 free:H X.env.locals=none
 jq:∀x c,X.env.cells.lookup x=some c->H c=none
 pin:∀p∈X.pn++pins,s.heap.get? p.1=some p.2/\H p.1=none/\p.1≠X.env.locals/\p.1∉X.fs/\∀v,p.2.data≠.cell v
 hok:gA X.prog X.w H s.heap
 len:σ.length=X.N.length
variable {X:Cx}
theorem Cx.Ok.Uw(ok:X.Ok)(e:X.base.get? b=some o):b∉X.fs:=λhb=>by
 have:=(ok.la.mem hb).1;rw[e]at this;cases this
variable {σ:List (Option V)} {pins:List (Addr×Obj)}
variable {s:Shared} in
theorem Inv.bs(I:Inv X pins σ H s):∀b o,X.base.get? b=some o->s.heap.get? b=some o/\H b=none:=λb o e=>
 ⟨I.base.keep b o (I.ok.bs b o e).1 (I.ok.bs b o e).2 (I.ok.Uw e) (I.ok.vE b o e),I.base.free b o (I.ok.bs b o e).1 (I.ok.bs b o e).2 (I.ok.vE b o e)⟩
variable {s:Shared} in
theorem Inv.bk(I:Inv X pins σ H s):∀b o,X.base.get? b=some o->s.heap.get? b=some o:=λb o e=>(I.bs b o e).1
variable {s:Shared} in
theorem Inv.mod(I:Inv X pins σ H s):Mod X.K X.mg X.base:=I.ok.mod
variable {s:Shared} in
theorem Inv.jE(I:Inv X pins σ H s):X.K.In s.heap:=I.ok.mod.zg.keeps I.bk
variable {s:Shared} in
theorem Inv.lt(I:Inv X pins σ H s):X.env.locals<s.heap.objs.size:=let ⟨_,hn,_⟩:=I.loc;hn.lt
variable {s:Shared} in
theorem Inv.sz(I:Inv X pins σ H s):X.aC.heap.objs.size<=s.heap.objs.size:=le_trans I.ok.above (le_of_lt I.lt)
variable {s:Shared} in
theorem Inv.Uv(I:Inv X pins σ H s)(h:s.heap.objs.size<=a):a∉X.fs:=λhb=>by
 obtain⟨_,o,ho,_⟩:=I.ok.la.mem hb;exact absurd (lt_of_lt_of_le (lt_size ho) (le_trans I.sz h)) (lt_irrefl _)
variable {s:Shared} in
theorem Inv.wZ(I:Inv X pins σ H s):∀x c,X.env.cells.lookup x=some c->c≠X.env.locals:=λx c e z=>by
 obtain⟨v,o,ho,hd⟩:=I.cell x c e;obtain⟨m,⟨o',es,ep,nB,fE,_⟩,_⟩:=I.loc;rw[z,nB]at ho;cases ho;rw[fE]at hd;cases hd
variable {s:Shared} in
theorem Inv.la(I:Inv X pins σ H s):s.heap.FunFrames X.base X.outer:=by
 have all:∀(l:List Env),(∀b∈frs l,b∈X.fs)->X.aC.heap.FunFrames X.base l->s.heap.FunFrames X.base l:=by
  intro l;induction l with
  |nil=>intro _ _;trivial
  |cons env r ih=>
   intro hs hl;obtain⟨hk,⟨L,o,hf,hn,ho,hd⟩,hr⟩:=hl;have hL:L∈X.fs:=hs L (by unfold frs;rw[filterMap_cons,hf];exact mem_cons_self);obtain⟨sl,e⟩:=I.base.slot L o ho (I.ok.Bo L hL) hL λz=>I.ok.vL L z hL;exact⟨hk,⟨L,_,hf,hn,e,hd⟩,ih (λb hb=>hs b (by unfold frs;rw[filterMap_cons,hf];exact mem_cons_of_mem _ hb)) hr⟩
 exact all X.outer (λ_ hb=>hb) I.ok.la
variable {s:Shared} in
theorem Inv.stack(I:Inv X pins σ H s):s.heap.FunFrames X.base X.stack:=by
 rcases I.ok.stk with e|⟨e,hf⟩
 ·rw[e];exact I.la
 ·rw[e];obtain⟨m,hn,_⟩:=I.loc;refine .cons (by rw[I.ok.kind];decide) hf hn ?_ I.la;exact Heap.get?_none_of_le (le_trans I.ok.xb I.ok.above)
variable {s:Shared} in
theorem Inv.tR(I:Inv X pins σ H s):∀b∈frs X.stack,b∈X.env.locals::X.fs:=λb hb=>by
 rcases I.ok.stk with e|⟨e,hf⟩
 ·rw[e]at hb;exact mem_cons_of_mem _ hb
 ·rw[e]at hb;unfold frs at hb;rw[filterMap_cons,hf]at hb;exact hb
variable {s:Shared} in
theorem Inv.rj(I:Inv X pins σ H s):∀b∈frs X.stack,H b=none:=λb hb=>by
 rcases mem_cons.mp (I.tR b hb)with e|hb
 ·rw[e];exact I.free
 ·obtain⟨_,o,ho,_⟩:=I.ok.la.mem hb;exact I.base.free b o ho (I.ok.Bo b hb) λz=>I.ok.vL b z hb
variable {t':Nat}
variable {s:Shared} in
theorem Inv.step{g':Array GenState}{d':Drawn}{ch:List Addr}(I:Inv X pins σ H s)(nD:∀b∈ch,(b∈X.ex\/X.aC.heap.objs.size<=b)/\b≠X.env.locals/\(∀x c,X.env.cells.lookup x=some c->c≠b)/\∀p∈X.pn++pins,p.1≠b)(keep:∀b o,b≠X.env.locals->b∉X.fs->b∉ch->s.heap.get? b=some o->H b=none->h'.get? b=some o)(slot:∀b o,b≠X.env.locals->b∈X.fs->b∉ch->s.heap.get? b=some o->H b=none->∃sl,h'.get? b=some {o with slots:=sl})(free:∀b o,b∉ch->s.heap.get? b=some o->H b=none->H' b=none)(there:∀b o,b∉ch->s.heap.get? b=some o->∃o',h'.get? b=some o')(tups:∀b xs,H b=some (.tup xs)->H' b=some (.tup xs))(frzs:∀b o u,H b=some (.jt o u)->H' b=some (.jt o u))(tbls:∀b ps,H b=some (.mj ps)->∃more,H' b=some (.mj (ps++more)))(ns:∀m,s.heap.Ns X.env.locals m->h'.Ns X.env.locals m)(hok:gA X.prog X.w H' h')(hg:AllBare g'):
  Inv X pins σ H' {s with heap:=h',gens:=g',drawn:=d',toks:=t'}:=by
 have RI:∀b o,X.aC.heap.get? b=some o->b≠X.env.locals:=λb o e=>ne_of_lt (lt_of_lt_of_le (lt_size e) I.ok.above);have nv:∀b o,X.aC.heap.get? b=some o->b∉X.ex->b∉ch:=λb o e hx hb=>by
  rcases(nD b hb).1 with z|z
  ·exact hx z
  ·exact absurd (lt_of_lt_of_le (lt_size e) z) (lt_irrefl _)
 have cellK:∀x c,X.env.cells.lookup x=some c->∀v,s.heap.IsCell c v->h'.IsCell c v:=λx c e v aT=>by
  obtain⟨o,ho,hd⟩:=aT;have E1:c∉ch:=λz=>(nD c z).2.2.1 x c e rfl;by_cases hc:c∈X.fs
  ·obtain⟨sl,q⟩:=slot c o (I.wZ x c e) hc E1 ho (I.jq x c e);exact⟨_,q,hd⟩
  ·exact⟨o,keep c o (I.wZ x c e) hc E1 ho (I.jq x c e),hd⟩
 refine⟨I.ok,I.os,hg,⟨λb o e n hb hx=>?_,λb o e n hb hx=>?_,λb o e n hx=>?_,λb o e hx=>?_,λb xs e=>tups b xs (I.base.tups b xs e),λb o xs e=>frzs b o xs (I.base.frzs b o xs e),λb ps e=>?_⟩,?_,λx c e=>?_,?_,λx c e=>?_,λp hp=>?_,hok,I.len⟩
 ·exact keep b o (RI b o e) hb (nv b o e hx) (I.base.keep b o e n hb hx) (I.base.free b o e n hx)
 ·obtain⟨sl,e1⟩:=I.base.slot b o e n hb hx;obtain⟨Vw,e2⟩:=slot b _ (RI b o e) hb (nv b o e hx) e1 (I.base.free b o e n hx);exact⟨Vw,e2⟩
 ·obtain⟨o',e1⟩:=I.base.there b o e hx;exact free b o' (nv b o e hx) e1 (I.base.free b o e n hx)
 ·obtain⟨o',e1⟩:=I.base.there b o e hx;exact there b o' (nv b o e hx) e1
 ·obtain⟨m1,e1⟩:=I.base.tbls b ps e;obtain⟨m2,e2⟩:=tbls b _ e1;exact⟨m1++m2,by rw[e2,Array.append_assoc]⟩
 ·obtain⟨m,hn,hl⟩:=I.loc;refine⟨m,ns m hn,λi x v e1 e2 e3=>?_⟩;obtain⟨u,r,l⟩:=hl i x v e1 e2 e3;refine⟨u,r,?_⟩;rcases l with l|⟨k,c,e,z⟩
  ·exact .inl l
  ·exact .inr ⟨k,c,e,cellK x c e _ z⟩
 ·obtain⟨v,z⟩:=I.cell x c e;exact⟨v,cellK x c e v z⟩
 ·obtain⟨m,⟨o,_,_,ho,_⟩,_⟩:=I.loc;exact free _ o (λz=>(nD _ z).2.1 rfl) ho I.free
 ·obtain⟨v,o,ho,hd⟩:=I.cell x c e;exact free c o (λz=>(nD c z).2.2.1 x c e rfl) ho (I.jq x c e)
 ·obtain⟨e,n,ne,nf,d⟩:=I.pin p hp;have E1:p.1∉ch:=λz=>(nD p.1 z).2.2.2 p hp rfl;exact⟨keep p.1 p.2 ne nf E1 e n,free p.1 p.2 E1 e n,ne,nf,d⟩
variable {s:Shared} in
theorem Inv.un(I:Inv X pins σ H s)(u:Un X.fs [] H H' s.heap h')(hok:gA X.prog X.w H' h'):Inv X pins σ H' {s with heap:=h',toks:=t'}:=by
 obtain⟨m,⟨o,es,ep,ho,r⟩,_⟩:=id I.loc;obtain⟨sl,hL⟩:=u.any ho I.free (by simp);exact I.step (g':=s.gens) (d':=s.drawn) (ch:=[]) (λ_ z=>nomatch z) (λb o _ hb _ e n=>u.keep b o e n hb (by simp)) (λb o _ hb _ e n=>u.slot b o e n hb (by simp)) (λb o _ e n=>u.free b o e n (by simp)) (λb o _ e=>u.there b o e (by simp)) u.tups u.frzs u.tbls (λm' hm=>by
  obtain⟨o',OA,OE,nB,r'⟩:=hm;rw[ho]at nB;cases nB;exact⟨_,OA,OE,hL,r'⟩) hok I.bare
variable {s:Shared} in
theorem Inv.call{g':Array GenState}{d':Drawn}{ch:List Addr}(I:Inv X pins σ H s)(u:Un (frs X.stack) ch H H' s.heap h')(hok:gA X.prog X.w H' h')(hg:AllBare g')(nD:∀b∈ch,(b∈X.ex\/X.aC.heap.objs.size<=b)/\b≠X.env.locals/\(∀x c,X.env.cells.lookup x=some c->c≠b)/\∀p∈X.pn++pins,p.1≠b):
  Inv X pins σ H' {s with heap:=h',gens:=g',drawn:=d',toks:=t'}:=by
 obtain⟨m,⟨o,es,ep,ho,r⟩,_⟩:=id I.loc;obtain⟨sl,hL⟩:=u.any ho I.free λz=>(nD _ z).2.1 rfl;exact I.step (ch:=ch) nD (λb o hL hb hc e n=>u.keep b o e n (λz=>(mem_cons.mp (I.tR b z)).elim hL hb) hc) (λb o _ _ hc e n=>u.any e n hc) (λb o hc e n=>u.free b o e n hc) (λb o hc e=>u.there b o e hc) u.tups u.frzs u.tbls (λm' hm=>by
  obtain⟨o',OA,OE,nB,r'⟩:=hm;rw[ho]at nB;cases nB;exact⟨_,OA,OE,hL,r'⟩) hok hg
variable {s:Shared} in
theorem Inv.turned{it:Addr}(I:Inv X pins σ H s)(k:∀b o,b≠it->s.heap.get? b=some o->h'.get? b=some o)(hn:H it=none)(hL:it≠X.env.locals)(h1:it∈X.ex\/X.aC.heap.objs.size<=it)(h2:∀x c,X.env.cells.lookup x=some c->c≠it)(h3:∀p∈X.pn++pins,p.1≠it):Inv X pins σ H {s with heap:=h',toks:=t'}:=by
 have RF:∀b u,H b=some u->b≠it:=λb u e z=>by rw[z,hn]at e;cases e
 refine I.step (g':=s.gens) (d':=s.drawn) (ch:=[it]) (λb hb=>?_) (λb o _ _ hc e _=>k b o (λz=>hc (by simp[z])) e) (λb o _ _ hc e _=>⟨o.slots,k b o (λz=>hc (by simp[z])) e⟩) (λ_ _ _ _ n=>n)
  (λb o hc e=>⟨o,k b o (λz=>hc (by simp[z])) e⟩) (λ_ _ e=>e) (λ_ _ _ e=>e) (λb ps e=>⟨#[],by rw[e];simp⟩) (λm hm=>?_) (λb u e=>?_) I.bare
 ·have e:b=it:=by simpa using hb
  subst e;exact⟨h1,hL,h2,h3⟩
 ·obtain⟨o,es,ep,ho,r⟩:=hm;exact⟨o,es,ep,k _ o (Ne.symm hL) ho,r⟩
 ·refine(I.hok b u e).mW (λc v hc q=>k c v ?_ q) (λ_ q=>q) λ_ _ q=>q;rcases hc with z|z
  ·rw[z];exact RF b u e
  ·exact RF c _ z
variable {s:Shared} in
theorem Inv.tok(I:Inv X pins σ H s)(t:Nat):Inv X pins σ H {s with toks:=t}:=I.un (h':=s.heap) (t':=t) Un.refl I.hok
variable {s:Shared} in
theorem Inv.kept(I:Inv X pins σ H s)(k:∀b u,s.heap.get? b=some u->h'.get? b=some u):Inv X pins σ H {s with heap:=h',toks:=t'}:=I.un (Un.kept k) (I.hok.kept k)
variable {s:Shared} in
theorem Inv.laid{o:HO}(I:Inv X pins σ H s)(k:∀b u,s.heap.get? b=some u->h'.get? b=some u)(hp:s.heap.objs.size<=a)(new:iJ X.prog X.w (upd H a o) h' a o):
  Inv X pins σ (upd H a o) {s with heap:=h',toks:=t'}:=I.un (Un.laid k hp (I.hok.fresh hp)) (I.hok.laid k hp new)
variable {s:Shared} in
theorem Inv.write{o:HO}(I:Inv X pins σ H s)(mu:JJ (H x))(he:e=x\/H e=some (.own x))(k:∀b u,b≠e->s.heap.get? b=some u->h'.get? b=some u)(Bg:∃u,h'.get? e=some u)(new:iJ X.prog X.w (upd H x o) h' x o):Inv X pins σ (upd H x o) {s with heap:=h',toks:=t'}:=I.un (Un.write mu he k Bg) (I.hok.write mu he k Bg new)
variable {s:Shared} in
theorem Inv.weak{bD:List (Option V)}(I:Inv X pins σ H s)(hl:bD.length=σ.length)(w:∀(i:Nat) v,bD[i]?=some (some v)->σ[i]?=some (some v)):Inv X pins bD H s:=
 ⟨I.ok,I.os,I.bare,I.base,let ⟨m,hn,fV⟩:=I.loc;⟨m,hn,λi x v e1 e2 e3=>fV i x v e1 (w i v e2) e3⟩,I.cell,I.free,I.jq,I.pin,I.hok,hl.trans I.len⟩
variable {s:Shared} in
theorem Inv.jZ{pins':List (Addr×Obj)}(I:Inv X pins σ H s)(h:∀p∈pins',s.heap.get? p.1=some p.2/\H p.1=none/\p.1≠X.env.locals/\p.1∉X.fs/\∀v,p.2.data≠.cell v):Inv X pins' σ H s:=
 ⟨I.ok,I.os,I.bare,I.base,I.loc,I.cell,I.free,I.jq,λp hp=>(mem_append.mp hp).elim (λz=>I.pin p (mem_append_left _ z)) (h p),I.hok,I.len⟩
variable {N:List Str} {i:Nat} {x:Str}
theorem zc(hN:N.Nodup){j:Nat}(a:N[i]?=some x)(b:N[j]?=some x):i=j:=by
 obtain⟨h1,e1⟩:=List.getElem?_eq_some_iff.mp a;obtain⟨h2,e2⟩:=List.getElem?_eq_some_iff.mp b;exact(List.getElem_inj hN).mp (e1.trans e2.symm)
variable {M:Model} {A:Around} {E:Value->Shared->Prop} {v:V} {u:Value}
variable {s:Shared} in
theorem w9{Q:Unit->Shared->Prop}(I:Inv X pins σ H s)(hN:X.N.Nodup)(hi:X.N[i]?=some x)(hx:Loc X.env.scope x)(r:RelV v u)(h:∀s',Inv X pins (σ.set i (some v)) H s'->(∃a,SameBut a s.heap s'.heap/\(a=X.env.locals\/X.env.cells.lookup x=some a))->Q () s')(hf:X.fn x=true\/X.env.scope.names.lookup x=some .local:=by first|exact .inl rfl|exact .inr rfl|assumption):wpAny M A (storeName X.env x u) Q E s:=by
 obtain⟨m,hn,hl⟩:=id I.loc;have pH:(X.env.scope.kind == .class || (X.env.scope.kind == .module&&X.env.locals !=X.env.globals))=false:=by rw[I.ok.kind];rfl
 have NZ:i<σ.length:=by rw[I.len];exact(List.getElem?_eq_some_iff.mp hi).1
 have wZ:=I.wZ;have tracked:∀{a:Addr} {h':Heap},(∃o,s.heap.get? a=some o/\H a=none)->SameBut a s.heap h'->gA X.prog X.w H h':=fun{a h'} ha hs b ob e=>by
  obtain⟨_,_,Jd⟩:=ha;refine(I.hok b ob e).mW (λc w' hc q=>(hs.2 c ?_).trans q) (λ_ q=>q) λ_ _ q=>q;rintro rfl;rcases hc with rfl|hc
  ·rw[Jd]at e;cases e
  ·rw[Jd]at hc;cases hc
 rcases hx with hk|hk
 ·refine wpAny_storeName_local hk hn (λh' NV hs=>?_) pH;obtain⟨oL,_,_,Wl,_⟩:=id hn;refine h _ ⟨I.ok,I.os,I.bare,⟨λb o e n hb hx=>?_,λb o e n hb hx=>?_,I.base.free,λb o e hx=>?_,I.base.tups,I.base.frzs,I.base.tbls⟩,⟨_,NV,λj y v' e1 e2 e3=>?_⟩,λy c e=>?_,I.free,I.jq,λp hp=>?_,tracked ⟨oL,Wl,I.free⟩ hs,by simpa using I.len⟩ ⟨_,hs,.inl rfl⟩
  ·exact(hs.2 b (ne_of_lt (lt_of_lt_of_le (lt_size e) I.ok.above))).trans (I.base.keep b o e n hb hx)
  ·obtain⟨sl,e1⟩:=I.base.slot b o e n hb hx;exact⟨sl,(hs.2 b (ne_of_lt (lt_of_lt_of_le (lt_size e) I.ok.above))).trans e1⟩
  ·obtain⟨o',e1⟩:=I.base.there b o e hx;exact⟨o',(hs.2 b (ne_of_lt (lt_of_lt_of_le (lt_size e) I.ok.above))).trans e1⟩
  ·by_cases hj:j=i
   ·subst hj;rw[hi]at e1;cases e1;rw[getElem?_set_self NZ]at e2;cases e2;exact⟨u,r,.inl ⟨hk,by simp⟩⟩
   ·rw[getElem?_set_ne (Ne.symm hj)]at e2;obtain⟨u',r',q⟩:=hl j y v' e1 e2 e3;refine⟨u',r',?_⟩;rcases q with⟨k,e⟩|⟨k,c,e,z⟩
    ·refine .inl ⟨k,?_⟩;have:y≠x:=λe=>hj (zc hN e1 (e▸hi));simp[this,e]
    ·exact .inr ⟨k,c,e,z.sameBut hs (wZ y c e)⟩
  ·obtain⟨w',z⟩:=I.cell y c e;exact⟨w',z.sameBut hs (wZ y c e)⟩
  ·obtain⟨e,n,ne,nf,d⟩:=I.pin p hp;exact⟨(hs.2 p.1 ne).trans e,n,ne,nf,d⟩
 ·have O4:X.fn x=true:=by
   rcases hf with z|z
   ·exact z
   ·rw[z]at hk;cases hk
  obtain⟨c,hc⟩:=I.ok.has x (.inl hk);obtain⟨w',z⟩:=I.cell x c hc;refine wpAny_storeName_cell I.ok.kind hk hc z (λh' wO hs=>?_);obtain⟨oc,J1,UN⟩:=id z;refine h {s with heap:=h'} ⟨I.ok,I.os,I.bare,⟨λb o e n hb hx=>?_,λb o e n hb hx=>?_,I.base.free,λb o e hx=>?_,I.base.tups,I.base.frzs,I.base.tbls⟩,⟨m,hn.sameBut hs (Ne.symm (wZ x c hc)),λj y v' e1 e2 e3=>?_⟩,λy c' e=>?_,I.free,I.jq,λp hp=>?_,tracked ⟨oc,J1,I.jq x c hc⟩ hs,by simpa using I.len⟩ ⟨c,hs,.inr hc⟩
  ·exact(hs.2 b (ne_of_lt (lt_of_lt_of_le (lt_size e) (I.ok.Fj x c O4 hc)))).trans (I.base.keep b o e n hb hx)
  ·obtain⟨sl,e1⟩:=I.base.slot b o e n hb hx;exact⟨sl,(hs.2 b (ne_of_lt (lt_of_lt_of_le (lt_size e) (I.ok.Fj x c O4 hc)))).trans e1⟩
  ·obtain⟨o',e1⟩:=I.base.there b o e hx;exact⟨o',(hs.2 b (ne_of_lt (lt_of_lt_of_le (lt_size e) (I.ok.Fj x c O4 hc)))).trans e1⟩
  ·by_cases hj:j=i
   ·subst hj;rw[hi]at e1;cases e1;rw[getElem?_set_self NZ]at e2;cases e2;exact⟨u,r,.inr ⟨.inl hk,c,hc,wO⟩⟩
   ·rw[getElem?_set_ne (Ne.symm hj)]at e2;obtain⟨u',r',q⟩:=hl j y v' e1 e2 e3;refine⟨u',r',?_⟩;rcases q with q|⟨k,c',e,z'⟩
    ·exact .inl q
    ·refine .inr ⟨k,c',e,z'.sameBut hs ?_⟩;rintro rfl;exact hj (zc hN e1 (I.ok.inj _ _ _ e hc▸hi))
  ·by_cases uD:c'=c
   ·subst uD;exact⟨_,wO⟩
   ·obtain⟨w2,z2⟩:=I.cell y c' e;exact⟨w2,z2.sameBut hs uD⟩
  ·obtain⟨e,n,ne,nf,d⟩:=I.pin p hp;refine⟨(hs.2 p.1 ?_).trans e,n,ne,nf,d⟩;intro q;rw[q,J1]at e;have q':oc=p.2:=Option.some.inj e;exact d w' (by rw[<- q'];exact UN)
variable {s:Shared} in
theorem j3{Q:Unit->Shared->Prop}(I:Inv X pins σ H s)(hN:X.N.Nodup)(hi:X.N[i]?=some x)(hx:Loc X.env.scope x)(r:RelV v u)(h:∀s',Inv X pins (σ.set i (some v)) H s'->Q () s')(hf:X.fn x=true\/X.env.scope.names.lookup x=some .local:=by first|exact .inl rfl|exact .inr rfl|assumption):wpAny M A (storeName X.env x u) Q E s:=
 w9 I hN hi hx r (λs' I' _=>h s' I') hf
variable {s':Shared}
variable {s:Shared} in
theorem Inv.uP{ch:List Addr}(I:Inv X pins σ H s)(ho:s'.os=s.os)(u:Un (frs X.stack) ch H H' s.heap s'.heap)(hok:gA X.prog X.w H' s'.heap)(hg:AllBare s'.gens)(nD:∀b∈ch,(b∈X.ex\/X.aC.heap.objs.size<=b)/\b≠X.env.locals/\(∀x c,X.env.cells.lookup x=some c->c≠b)/\∀p∈X.pn++pins,p.1≠b):Inv X pins σ H' s':=by
 obtain⟨h',g',d',t',o'⟩:=s';have e:o'=s.os:=ho;subst e;exact I.call (g':=g') (t':=t') (d':=d') u hok hg nD
noncomputable abbrev XK:=Value->Option Addr->Hp->Prop
noncomputable abbrev St:=List (Option V)
noncomputable abbrev VK:=V->Hp->Prop
noncomputable abbrev TE:=St->Hp->VK->Prop
noncomputable abbrev TT:=St->Hp->(Bool->Hp->Prop)->Prop
noncomputable abbrev TA:=St->Hp->(List V->Hp->Prop)->Prop
structure Ends where
 nx:St->Hp->Prop
 rt:VK
 bk:St->Hp->Prop:=λ_ _=>False
 ct:St->Hp->Prop:=λ_ _=>False
noncomputable abbrev TS:=Ends->St->Hp->Prop
def EP (X:Cx) (pins:List (Addr×Obj)) (σ:St) (Q:VK) (u:Value) (s':Shared):Prop:=∃v H',Inv X pins σ H' s'/\RelV v u/\Q v H'
def TP (X:Cx) (pins:List (Addr×Obj)) (σ:St) (Q:Bool->Hp->Prop) (b:Bool) (s':Shared):Prop:=∃H',Inv X pins σ H' s'/\Q b H'
def AP (X:Cx) (pins:List (Addr×Obj)) (σ:St) (Q:List V->Hp->Prop) (us:List Value) (s':Shared):Prop:=∃vs H',Inv X pins σ H' s'/\Vals vs us/\Q vs H'
def SP (X:Cx) (pins:List (Addr×Obj)) (D:Ends) (f:Flow) (s':Shared):Prop:=
 match f with
 | .next=>∃bD H',Inv X pins bD H' s'/\D.nx bD H'
 | .brk=>∃bD H',Inv X pins bD H' s'/\D.bk bD H'
 | .cont=>∃bD H',Inv X pins bD H' s'/\D.ct bD H'
 | .ret u=>∃v bD H',Inv X pins bD H' s'/\RelV v u/\D.rt v H'
def PE (X:Cx) (e:Expr) (t:TE):Prop:=
 ∀(pins:List (Addr×Obj)) (s:Shared) (σ:St) (H:Hp) (Q:VK),Inv X pins σ H s->t σ H Q->wpAny (model X.prog X.w) X.A (eval e X.env) (EP X pins σ Q) X.xe s
def PT (X:Cx) (e:Expr) (t:TT):Prop:=
 ∀(pins:List (Addr×Obj)) (s:Shared) (σ:St) (H:Hp) (Q:Bool->Hp->Prop),Inv X pins σ H s->t σ H Q->wpAny (model X.prog X.w) X.A (isTrue e X.env (eval e X.env)) (TP X pins σ Q) X.xe s
def PW (X:Cx) (e:Expr) (t:TT):Prop:=
 ∀(whole:Sem Value) (pins:List (Addr×Obj)) (s:Shared) (σ:St) (H:Hp) (Q:Bool->Hp->Prop),Inv X pins σ H s->t σ H Q->wpAny (model X.prog X.w) X.A (isTrue e X.env whole) (TP X pins σ Q) X.xe s
variable {e:Expr}
theorem PW.pt{t:TT}(h:PW X e t):PT X e t:=h _
def PA (X:Cx) (es:List Expr) (t:TA):Prop:=
 ∀(pos:Pos) (pins:List (Addr×Obj)) (s:Shared) (σ:St) (H:Hp) (Q:List V->Hp->Prop),Inv X pins σ H s->t σ H Q->wpAny (model X.prog X.w) X.A (spliced (backTo pos (starEach es X.env))) (AP X pins σ Q) X.xe s
def PS (X:Cx) (st:Stmt) (t:TS):Prop:=
 ∀(pins:List (Addr×Obj)) (s:Shared) (σ:St) (H:Hp) (D:Ends),Inv X pins σ H s->t D σ H->wpAny (model X.prog X.w) X.A (exec st X.env) (SP X pins D) X.xe s
def iu (X:Cx) (st:List Stmt) (t:TS):Prop:=
 ∀(pins:List (Addr×Obj)) (s:Shared) (σ:St) (H:Hp) (D:Ends),Inv X pins σ H s->t D σ H->wpAny (model X.prog X.w) X.A (execs st X.env) (SP X pins D) X.xe s
variable {α:Type}
theorem bP{t:Sem α}{Q Q':α->Shared->Prop}{s:Shared}(h:wpAny M A t Q E s)(hQ:∀a s,Q a s->Q' a s):wpAny M A t Q' E s:=wpAny_mono h hQ λ_ _ x=>x
open PySem PySem.Spec PyProof.Rows
noncomputable def yb (i:Nat):TE:=λσ H Q=>∃v,σ[i]?=some (some v)/\Q v H
noncomputable def tC (v:V):TE:=λ_ H Q=>Q v H
variable {pos:Pos}
theorem nh(hN:X.N[i]?=some x)(hv:oN X.env.scope x)(hd:(x==("__debug__" : Str))=false:=by decide)(gy:(x==("__classdict__" : Str))=false:=by decide):PE X (.Name x pos) (yb i):=by
 intro pins s σ H Q I h;obtain⟨v,e,h⟩:=h;obtain⟨m,hn,hl⟩:=I.loc;obtain⟨u,r,l⟩:=hl i x v hN e hv;have fin:EP X pins σ Q u s:=⟨v,H,I,r,h⟩;rcases l with⟨hk,hm⟩|⟨hk,c,hc,rL⟩
 ·exact wpAny_Name (wpAny_loadName_local I.ok.kind hk hn hm fin) hd
 ·rcases hk with hk|hk
  ·exact wpAny_Name (wpAny_loadName_cell I.ok.kind hk hc rL fin) hd
  ·exact wpAny_Name (wpAny_loadName_free I.ok.kind hk hc rL fin gy) hd
theorem MW{i j pos}:PE X (.Constant (.int i) j pos) (tC (.int i)):=λ_ _ _ H _ I h=>wpAny_Constant_int ⟨.int i,H,I.tok _,⟨_,rfl⟩,h⟩
theorem Qt{b j pos}:PE X (.Constant (.bool b) j pos) (tC (.bl b)):=λ_ _ _ H _ I h=>Constant_bool ⟨.bl b,H,I,rfl,h⟩
theorem MV{j pos}:PE X (.Constant .none j pos) (tC .bU):=λ_ _ _ H _ I h=>Constant_none ⟨.bU,H,I,rfl,h⟩
theorem MT{x j pos}:PE X (.Constant (.str x) j pos) (tC (.str x)):=λ_ _ _ H _ I h=>Calls.Constant_str ⟨.str x,H,I.tok _,⟨_,rfl⟩,h⟩
def Gl (X:Cx) (x:Str):Prop:=X.env.kindOf x=some .globalImplicit
variable {σ:St}
theorem mQ{s:Shared}{Q:Value->Shared->Prop}(I:Inv X pins σ H s)(hg:Gl X x)(hm:X.mg x=some u)(h:Q u s)(hd:(x==("__debug__" : Str))=false:=by decide):wpAny (model X.prog X.w) X.A (eval (.Name x pos) X.env) Q E s:=
 Calls.Name_function_global I.ok.kind hg (Calls.loadGlobal_global (by rw[I.ok.glob];exact I.mod.glob.keeps I.bk) hm h) hd
theorem qC{s:Shared}{Q:Value->Shared->Prop}(I:Inv X pins σ H s)(hg:Gl X x)(hm:X.mg x=none)(hv:bootBuiltins x=some u)(h:Q u s)(hn:x≠"__name__":=by decide)(hd:(x==("__debug__" : Str))=false:=by decide):wpAny (model X.prog X.w) X.A (eval (.Name x pos) X.env) Q E s:=by
 obtain⟨mb,h1,h2⟩:=I.mod.blt;exact Calls.Name_function_global I.ok.kind hg (Calls.loadGlobal_builtin (by rw[I.ok.glob];exact I.mod.glob.keeps I.bk) hm (by rw[I.ok.blt];exact h1.keeps I.bk) ((h2 x hn).trans hv) h) hd
theorem mM(hg:Gl X x)(hm:X.mg x=some u)(r:RelV v u)(hd:(x==("__debug__" : Str))=false:=by decide):PE X (.Name x pos) (tC v):=
 λ_ _ _ H _ I h=>mQ I hg hm ⟨v,H,I,r,h⟩ hd
theorem KC(hg:Gl X x)(hm:X.mg x=none)(hv:bootBuiltins x=some u)(r:RelV v u)(hn:x≠"__name__":=by decide)(hd:(x==("__debug__" : Str))=false:=by decide):PE X (.Name x pos) (tC v):=
 λ_ _ _ H _ I h=>qC I hg hm hv ⟨v,H,I,r,h⟩ hn hd
noncomputable def tB (t:TE):TT:=λσ H Q=>t σ H λx H1=>∃c,x=.bl c/\Q c H1
noncomputable def Ua (t u:TT):TT:=λσ H Q=>t σ H λc H1=>if c=true then u σ H1 Q else Q false H1
noncomputable def Vr (t u:TT):TT:=λσ H Q=>t σ H λc H1=>if c=true then Q true H1 else u σ H1 Q
noncomputable def U7 (t:TT):TT:=λσ H Q=>t σ H λc H1=>Q (!c) H1
variable {a:Expr}
variable {tA:TT} in
theorem Kq(ha:PT X a tA):PW X (.BoolOp .And [a] pos) tA:=by
 intro wh pins s σ H Q I h;refine isTrue_and (bP (ha pins s σ H Q I h) λc s1 e=>?_);cases c with
 |true=>exact isTrue_and_nil e
 |false=>exact e
variable {tA:TT} in
theorem ML(ha:PT X a tA):PW X (.BoolOp .Or [a] pos) tA:=by
 intro wh pins s σ H Q I h;refine isTrue_or (bP (ha pins s σ H Q I h) λc s1 e=>?_);cases c with
 |false=>exact isTrue_or_nil e
 |true=>exact e
variable {rest:List Expr} {Il:TT} {b:Expr}
variable {tA:TT} in
theorem MM(ha:PT X a tA)(hb:PW X (.BoolOp .And (b::rest) pos) Il):PW X (.BoolOp .And (a::b::rest) pos) (Ua tA Il):=by
 intro wh pins s σ H Q I h;refine isTrue_and (bP (ha pins s σ H _ I h) λc s1 ⟨H1,I1,q1⟩=>?_);cases c with
 |true=>exact hb wh pins s1 σ H1 Q I1 q1
 |false=>exact⟨H1,I1,q1⟩
variable {tA:TT} in
theorem Qm(ha:PT X a tA)(hb:PW X (.BoolOp .Or (b::rest) pos) Il):PW X (.BoolOp .Or (a::b::rest) pos) (Vr tA Il):=by
 intro wh pins s σ H Q I h;refine isTrue_or (bP (ha pins s σ H _ I h) λc s1 ⟨H1,I1,q1⟩=>?_);cases c with
 |true=>exact⟨H1,I1,q1⟩
 |false=>exact hb wh pins s1 σ H1 Q I1 q1
variable {tA:TT} in
theorem MN(ha:PT X a tA):PT X (.UnaryOp .Not a pos) (U7 tA):=by
 intro pins s σ H Q I h;exact isTrue_not (ha pins s σ H (λc H1=>Q (!c) H1) I h)
variable {tb ta:TE}
noncomputable def Qi (ta tb:TE):TE:=λσ H Q=>ta σ H λx H1=>∃c,x=.bl c/\if c=true then tb σ H1 Q else Q (.bl false) H1
noncomputable def U6 (ta tb:TE):TE:=λσ H Q=>ta σ H λx H1=>∃c,x=.bl c/\if c=true then Q (.bl true) H1 else tb σ H1 Q
noncomputable def Qf (ta:TE):TE:=λσ H Q=>ta σ H λx H1=>∃c,x=.bl c/\Q (.bl (!c)) H1
theorem MU{op}{t:TE}(h:PE X a t):PE X (.BoolOp op [a] pos) t:=λpins s σ H Q I hw=>BoolOp_one (h pins s σ H Q I hw)
theorem MX(ha:PE X a ta)(hb:PE X (.BoolOp .And (b::rest) pos) tb):PE X (.BoolOp .And (a::b::rest) pos) (Qi ta tb):=by
 intro pins s σ H Q I h;refine BoolOp_and (bP (ha pins s σ H _ I h) λv s1 ⟨x,H1,I1,r1,q1⟩=>?_);obtain⟨c,rfl,q1⟩:=q1;cases r1;refine wpAny_truthy_bool ?_;cases c with
 |true=>exact hb pins s1 σ H1 Q I1 q1
 |false=>exact⟨.bl false,H1,I1,rfl,q1⟩
theorem pe_or(ha:PE X a ta)(hb:PE X (.BoolOp .Or (b::rest) pos) tb):PE X (.BoolOp .Or (a::b::rest) pos) (U6 ta tb):=by
 intro pins s σ H Q I h;refine BoolOp_or (bP (ha pins s σ H _ I h) λv s1 ⟨x,H1,I1,r1,q1⟩=>?_);obtain⟨c,rfl,q1⟩:=q1;cases r1;refine wpAny_truthy_bool ?_;cases c with
 |false=>exact hb pins s1 σ H1 Q I1 q1
 |true=>exact⟨.bl true,H1,I1,rfl,q1⟩
theorem DG(ha:PE X a ta):PE X (.UnaryOp .Not a pos) (Qf ta):=by
 intro pins s σ H Q I h;refine UnaryOp_ (bP (ha pins s σ H _ I h) λv s1 ⟨x,H1,I1,r1,q1⟩=>?_);obtain⟨c,rfl,q1⟩:=q1;cases r1;exact not_of (wpAny_truthy_bool ⟨.bl (!c),H1,I1,rfl,q1⟩)
noncomputable def Vs (t:TT) (ta tb:TE):TE:=λσ H Q=>t σ H λc H1=>if c=true then ta σ H1 Q else tb σ H1 Q
variable {c:Expr}
variable {tA:TT} in
theorem yO(hc:PT X c tA)(ha:PE X a ta)(hb:PE X b tb):PE X (.IfExp c a b pos) (Vs tA ta tb):=by
 intro pins s σ H Q I h;refine wpAny_IfExp (bP (hc pins s σ H _ I h) λd s1 ⟨H1,I1,q1⟩=>?_);cases d with
 |true=>exact ha pins s1 σ H1 Q I1 q1
 |false=>exact hb pins s1 σ H1 Q I1 q1
open PySem PySem.Spec PyProof.Rows
def fF (K:PySem.W.Frag) (H:Hp) (a:Addr) (xs:List V):Prop:=
 Rd H a (.lst xs)\/
  ∃(o:Obj) (aA:Array Value) (n:Nat),K.lookup a=some o/\o.cls=.type "list"/\o.dict=none/\o.data=.seq aA n/\aA.size<=sizeLine/\Vals xs aA.toList
def jI (K:PySem.W.Frag) (H:Hp) (a:Addr) (xs:List V):Prop:=
 Rd H a (.tup xs)\/
  ∃(o:Obj) (aA:Array Value) (n:Nat),K.lookup a=some o/\o.cls=.type "tuple"/\o.data=.seq aA n/\aA.size<=sizeLine/\Vals xs aA.toList
noncomputable def V5:Value->Option V
 | .none=>some .bU
 | .bool b=>some (.bl b)
 | .int i _=>some (.int i)
 | .str x _=>some (.str x)
 | .bytes b _=>some (.nH b)
 | .float b _=>some (.Oq b)
 | .ref a=>some (.ref a)
 | .type n=>some (.ty n)
 |_=>none
theorem RelV.abs{x:V}(r:RelV x u):V5 u=some x:=by
 cases x with
 |bU=>cases r;rfl
 |bl _=>cases r;rfl
 |int _=>obtain⟨t,rfl⟩:=r;rfl
 |str _=>obtain⟨t,rfl⟩:=r;rfl
 |nH _=>obtain⟨t,rfl⟩:=r;rfl
 |Oq _=>obtain⟨t,rfl⟩:=r;rfl
 |ref _=>cases r;rfl
 |ty _=>cases r;rfl
theorem RelV.inj{x y:V}(r:RelV x u)(q:RelV y u):x=y:=Option.some.inj (r.abs.symm.trans q.abs)
theorem Vals.inj:∀{xs ys:List V} {us:List Value},Vals xs us->Vals ys us->xs=ys
 |_,_,_,.nil,.nil=>rfl
 |_,_,_,.cons r t,.cons r' t'=>by rw[r.inj r',Vals.inj t t']
variable {a:Addr}
theorem fF.of{K:PySem.W.Frag}(h:H a=some (.lst xs)):fF K H a xs:=.inl (.inl h)
variable {s:Shared} in
theorem Inv.list(I:Inv X pins σ H s)(h:fF X.K H a xs):∃aA:List Value,Vals xs aA/\PlainL s.heap a aA.toArray/\xs.length<=sizeLine:=by
 rcases h with h|⟨o,aA,n,hk,hc,hd,hs,hz,r⟩
 ·obtain⟨z,aA,n,r,e⟩:=h.ok I.hok;exact⟨aA,r,⟨_,n,e,rfl,rfl,rfl⟩,z⟩
 ·refine⟨aA.toList,r,⟨o,n,I.jE a o hk,hc,hd,by simpa using hs⟩,?_⟩;have e:=r.length;simp only[length_toList]at e;omega
variable {s:Shared} in
theorem Inv.tuple(I:Inv X pins σ H s)(h:jI X.K H a xs):∃aA:List Value,Vals xs aA/\IsTup s.heap a aA.toArray/\xs.length<=sizeLine:=by
 rcases h with h|⟨o,aA,n,hk,hc,hs,hz,r⟩
 ·obtain⟨z,aA,r,p⟩:=h.ok I.hok;exact⟨aA,r,p,z⟩
 ·refine⟨aA.toList,r,⟨o,I.jE a o hk,hc,n,by simpa using hs⟩,?_⟩;have e:=r.length;simp only[length_toList]at e;omega
variable {ys:List V}
variable {s:Shared} in
theorem Inv.Hd(I:Inv X pins σ H s)(h:fF X.K H a xs)(h':fF X.K H a ys):xs=ys:=by
 obtain⟨aA,r,⟨o,n,e,_,_,d⟩,_⟩:=I.list h;obtain⟨its',r',⟨o',n',e',_,_,d'⟩,_⟩:=I.list h';rw[e]at e';cases e';rw[d]at d';injection d' with d1 _;have:aA=its':=by simpa using congrArg toList d1
 subst this;exact r.inj r'
variable {s:Shared} in
theorem Inv.CT(I:Inv X pins σ H s)(h:jI X.K H a xs)(h':jI X.K H a ys):xs=ys:=by
 obtain⟨aA,r,⟨o,e,_,n,d⟩,_⟩:=I.tuple h;obtain⟨its',r',⟨o',e',_,n',d'⟩,_⟩:=I.tuple h';rw[e]at e';cases e';rw[d]at d';injection d' with d1 _;have:aA=its':=by simpa using congrArg toList d1
 subst this;exact r.inj r'
noncomputable abbrev Cx.mU (X:Cx) (E:Value->Shared->Prop):Cx:={X with xe:=E}
noncomputable abbrev Cx.lL (X:Cx):Cx:=X.mU λ_ _=>False
theorem Cx.Ok.mU(ok:X.Ok)(E:Value->Shared->Prop):(X.mU E).Ok:=
 ⟨ok.mod,ok.kind,ok.glob,ok.blt,ok.above,ok.inj,ok.has,ok.Fj,ok.hd,ok.frames,ok.stk,ok.Bs,ok.bs,ok.xb,ok.vE,ok.vL,ok.la,ok.Bo⟩
theorem Cx.Ok.iM(ok:(X.mU E).Ok):X.Ok:=
 ⟨ok.mod,ok.kind,ok.glob,ok.blt,ok.above,ok.inj,ok.has,ok.Fj,ok.hd,ok.frames,ok.stk,ok.Bs,ok.bs,ok.xb,ok.vE,ok.vL,ok.la,ok.Bo⟩
variable {s:Shared} in
theorem Inv.mU(I:Inv X pins σ H s)(E:Value->Shared->Prop):Inv (X.mU E) pins σ H s:=⟨I.ok.mU E,I.os,I.bare,I.base,I.loc,I.cell,I.free,I.jq,I.pin,I.hok,I.len⟩
variable {s:Shared} in
theorem Inv.iM(I:Inv (X.mU E) pins σ H s):Inv X pins σ H s:=⟨I.ok.iM,I.os,I.bare,I.base,I.loc,I.cell,I.free,I.jq,I.pin,I.hok,I.len⟩
theorem SP.iM{D:Ends}{f:Flow}(h:SP (X.mU E) pins D f s'):SP X pins D f s':=by
 cases f with
 |next=>obtain⟨bD,H',I,q⟩:=h;exact⟨bD,H',I.iM,q⟩
 |brk=>obtain⟨bD,H',I,q⟩:=h;exact⟨bD,H',I.iM,q⟩
 |cont=>obtain⟨bD,H',I,q⟩:=h;exact⟨bD,H',I.iM,q⟩
 |ret u=>obtain⟨v,bD,H',I,r,q⟩:=h;exact⟨v,bD,H',I.iM,r,q⟩
variable {t:TS}
theorem iu.lL{st:List Stmt}(h:iu X.lL st t):iu X st t:=λpins s σ H D I hw=>
 wpAny_mono (h pins s σ H D (I.mU _) hw) (λ_ _ q=>q.iM) λ_ _ z=>False.elim z
noncomputable def Qg:TS:=λD σ H=>D.nx σ H
variable {u:TS}
noncomputable def M6 (t u:TS):TS:=λD σ H=>t {D with nx:=u D} σ H
theorem Kt:iu X [] Qg:=λ_ _ σ H _ I h=>wpAny_execs_nil ⟨σ,H,I,h⟩
variable {st:Stmt} {rest:List Stmt}
theorem gr(h1:PS X st t)(h2:iu X rest u):iu X (st::rest) (M6 t u):=by
 intro pins s σ H D I h;refine wpAny_execs_cons (bP (h1 pins s σ H {D with nx:=u D} I h) λf s1 q=>?_);cases f with
 |next=>
  obtain⟨bD,H',I',q⟩:=q;exact h2 pins s1 bD H' D I' q
 |ret v=>exact q
 |brk=>exact q
 |cont=>exact q
theorem jY(h1:PS X st t):iu X [st] t:=by
 intro pins s σ H D I h;refine wpAny_execs_cons (bP (h1 pins s σ H D I h) λf s1 q=>?_);cases f with
 |next=>exact wpAny_execs_nil q
 |ret v=>exact q
 |brk=>exact q
 |cont=>exact q
theorem Inv.quiet{s:Shared}(I:Inv X pins σ H s):interactive X.env=false:=by simp[interactive,I.ok.kind]
variable {te:TE}
noncomputable def Qh (te:TE):TS:=λD σ H=>te σ H λ_ H1=>D.nx σ H1
theorem rF(he:PE X e te)(hs:swapsWith e none pos.line X.env=pure false:=by rfl):PS X (.Expr e pos) (Qh te):=by
 intro pins s σ H D I h;exact wpAny_Expr_any (bP (he pins s σ H _ I h) λv s1 ⟨x,H1,I1,r1,q1⟩=>⟨σ,H1,I1,q1⟩) I.quiet hs
noncomputable def M7 (te:TE):TS:=λD σ H=>te σ H D.rt
theorem oy(he:PE X e te):PS X (.Return (some e) pos) (M7 te):=by
 intro pins s σ H D I h;exact wpAny_Return_some (bP (he pins s σ H _ I h) λv s1 ⟨x,H1,I1,r1,q1⟩=>⟨x,σ,H1,I1,r1,q1⟩)
noncomputable def M9 (c:TT) (t u:TS):TS:=λD σ H=>c σ H λb H1=>if b=true then t D σ H1 else u D σ H1
theorem ID{a b:List Stmt}{tc:TT}(hc:PT X c tc)(ha:iu X a t)(hb:iu X b u):PS X (.If c a b pos) (M9 tc t u):=by
 intro pins s σ H D I h;refine wpAny_If (bP (hc pins s σ H _ I h) λd s1 ⟨H1,I1,q1⟩=>?_);cases d with
 |true=>exact ha pins s1 σ H1 D I1 q1
 |false=>exact hb pins s1 σ H1 D I1 q1
noncomputable def M8:TS:=λ_ _ _=>False
theorem GK:PS X st M8:=λ_ _ _ _ _ _ h=>h.elim
noncomputable abbrev TG:=V->St->Hp->(St->Hp->Prop)->Prop
noncomputable abbrev pS:=List V->St->Hp->(St->Hp->Prop)->Prop
def PG (X:Cx) (target:Expr) (t:TG):Prop:=
 ∀(pins:List (Addr×Obj)) (s:Shared) (σ:St) (H:Hp) (v:V) (u:Value) (Q:St->Hp->Prop),Inv X pins σ H s->RelV v u->t v σ H Q->
  wpAny (model X.prog X.w) X.A (assign target X.env u) (λ_ s'=>∃bD H',Inv X pins bD H' s'/\Q bD H') X.xe s
def v7 (X:Cx) (ts:List Expr) (t:pS):Prop:=
 ∀(pins:List (Addr×Obj)) (s:Shared) (σ:St) (H:Hp) (vs:List V) (us:List Value) (Q:St->Hp->Prop),Inv X pins σ H s->Vals vs us->t vs σ H Q->
  wpAny (model X.prog X.w) X.A (assignInOrder ((assignEach ts X.env).map (·.2)) us) (λ_ s'=>∃bD H',Inv X pins bD H' s'/\Q bD H') X.xe s
noncomputable def xO (i:Nat):TG:=λv σ H Q=>Q (σ.set i (some v)) H
theorem Kz(hN:X.N.Nodup)(hi:X.N[i]?=some x)(hx:Loc X.env.scope x)(hf:X.fn x=true\/X.env.scope.names.lookup x=some .local:=by first|exact .inl rfl|exact .inr rfl|assumption):PG X (.Name x pos) (xO i):=by
 intro pins s σ H v u Q I r h;exact wpAny_assign_Name (j3 I hN hi hx r (λs' I'=>⟨_,H,I',h⟩) hf)
noncomputable def UU:pS:=λvs σ H Q=>vs=[]/\Q σ H
noncomputable def QV (t:TG) (u:pS):pS:=λvs σ H Q=>∃v r,vs=v::r/\t v σ H λbD H'=>u r bD H' Q
theorem Ky:v7 X [] UU:=by
 intro pins s σ H vs us Q I r h;obtain⟨e,h⟩:=h;subst e;cases r;exact assignInOrder_nil ⟨σ,H,I,h⟩
variable {es:List Expr}
theorem GO{t:TG}{u:pS}(h1:PG X e t)(h2:v7 X es u)(hs:(assignEach (e::es) X.env).map (·.2)=assign e X.env::(assignEach es X.env).map (·.2):=by rfl):v7 X (e::es) (QV t u):=by
 intro pins s σ H vs us Q I r h;obtain⟨v,vr,e1,h⟩:=h;subst e1;cases r with
 |cons r rr=>
  rw[hs];refine assignInOrder_cons (bP (h1 pins s σ H _ _ _ I r h) λ_ s1 ⟨tL,H1,I1,q1⟩=>?_);exact h2 pins s1 tL H1 _ _ Q I1 rr q1
noncomputable def UT (K:PySem.W.Frag) (n:Nat) (t:pS):TG:=λv σ H Q=>∃a xs,v=.ref a/\jI K H a xs/\xs.length=n/\t xs σ H Q
theorem DB{k:Nat}{t:pS}{n:Nat}(hc:X.calm=true)(h:v7 X es t)(hn:(assignEach es X.env).length=n:=by rfl)(gw:(assignEach es X.env).findIdx? (·.1)=none:=by rfl):PG X (.Tuple es k pos) (UT X.K n t):=by
 intro pins s σ H v u Q I r hw;obtain⟨a,xs,e1,hq,hl,hw⟩:=hw;subst e1;cases r;obtain⟨aA,rv,ht,hz⟩:=I.tuple hq;refine assign_Tuple_tuple (I.ok.hd hc) ht (by simp[hn,<- hl,rv.length]) gw λh' hx=>?_;have I1:Inv X pins σ H {s with heap:=h'}:=I.kept (t':=s.toks) λb o e=>hx b o (ne_of_lt (lt_size e)) e;exact h pins _ σ H xs _ Q I1 (by simpa using rv) hw
noncomputable def BU (te:TE) (g:TG):TS:=λD σ H=>te σ H λx H1=>g x σ H1 D.nx
variable {tg:Expr}
theorem MP{g:TG}(he:PE X e te)(hg:PG X tg g)(hs:swapsWithSole [tg] e pos.line X.env=pure false:=by rfl)(hw:swappedStores [tg] e X.env=pure none:=by rfl)(h1:(assignEach [tg] X.env).map (·.2)=[assign tg X.env]:=by rfl):PS X (.Assign [tg] e pos) (BU te g):=by
 intro pins s σ H D I h;refine wpAny_Assign_stores (bP (he pins s σ H _ I h) λv s1 ⟨x,H1,I1,r1,q1⟩=>?_) hs hw;rw[h1];exact bP (hg pins s1 σ H1 x v _ I1 r1 q1) λ_ s2 q=>q
variable {pos':Pos}
theorem hZ(hN:X.N.Nodup)(hi:X.N[i]?=some x)(hx:Loc X.env.scope x)(he:PE X e te)(hs:swapsWith e (some (.Name x pos')) pos.line X.env=pure false:=by rfl)(hf:X.fn x=true\/X.env.scope.names.lookup x=some .local:=by first|exact .inl rfl|exact .inr rfl|assumption):
  PS X (.Assign [.Name x pos'] e pos) (BU te (xO i)):=by
 intro pins s σ H D I h;refine wpAny_Assign_Name (bP (he pins s σ H _ I h) λv s1 ⟨y,H1,I1,r1,q1⟩=>?_) hs;exact j3 I1 hN hi hx r1 (λs2 I2=>⟨_,H1,I2,q1⟩) hf
noncomputable def U5 (i j:Nat) (ta:TA):TS:=λD σ H=>ta σ H λvs H1=>∃v w,vs=[v,w]/\D.nx ((σ.set i (some v)).set j (some w)) H1
variable {a:Expr}
theorem MO{j:Nat}{y:Str}{ta:TA}{px py pt:Pos}{kt k2 yH}(hc:X.calm=true)(hN:X.N.Nodup)(hi:X.N[i]?=some x)(hj:X.N[j]?=some y)(O0:i≠j)(hx:X.env.scope.names.lookup x=some .local)(hy:X.env.scope.names.lookup y=some .local)(ha:PA X [a,b] ta)(hw:swappedStores [.Tuple [.Name x px,.Name y py] kt pt] (.Tuple [a,b] k2 yH) X.env=pure (some [x,y]))(hs:swapsWithSole [.Tuple [.Name x px,.Name y py] kt pt] (.Tuple [a,b] k2 yH) pos.line X.env=pure false:=by rfl):
  PS X (.Assign [.Tuple [.Name x px,.Name y py] kt pt] (.Tuple [a,b] k2 yH) pos) (U5 i j ta):=by
 intro pins s σ H D I h;rw[exec_Assign_arm];refine wpAny_bind (wpAny_standAt ?_);rw[hs];refine wpAny_bind (wpAny_pure ?_);rw[if_neg (by decide)];refine wpAny_bind (Tuple_ (bP (ha _ pins s σ H _ I h) λus s1 ⟨vs,H1,I1,r1,q1⟩=>?_));obtain⟨v,w,e1,q1⟩:=q1;subst e1;obtain⟨u1,u2,rfl,rv,ko⟩:∃u1 u2,us=[u1,u2]/\RelV v u1/\RelV w u2:=by
  cases r1 with
  |cons p q=>
   cases q with
   |cons p' q'=>
    cases q';exact⟨_,_,rfl,p,p'⟩
 refine wpAny_newObj_type ?_ (by show 2<=sizeLine;decide);have I2:Inv X pins σ H1 {s1 with heap:=s1.heap.push {cls:=.type "tuple",data:=.seq [u1,u2].toArray}}:=I1.kept (t':=s1.toks) λb o e=>get?_push_of_some _ e;rw[hw];refine wpAny_bind (wpAny_pure ?_);show wpAny (model X.prog X.w) X.A (do rule "assign.swapped-stores";let items <- unpackItems (.ref s1.heap.objs.size) 2 none;assignInOrder [λv=>bindName X.env y v,λv=>bindName X.env x v] items.reverse;pure Flow.next) _ _ _
 refine wpAny_bind (wpAny_rule (wpAny_bind (unpackItems_tuple (items:=#[u1,u2]) (I.ok.hd hc) (IsTup.new s1.heap _) λh' W4=>?_)));have I3:=I2.kept (h':=h') (t':=s1.toks) λb o e=>W4 b o (ne_of_lt (lt_size e)) e;show wpAny _ _ (assignInOrder [λv=>bindName X.env y v,λv=>bindName X.env x v] [u2,u1] >>= λ_=>pure Flow.next) _ _ _
 refine wpAny_bind (assignInOrder_cons (wpAny_bindName (j3 I3 hN hj (.inl hy) ko (λs2 I4=>?_) (.inr hy))));refine assignInOrder_cons (wpAny_bindName (j3 I4 hN hi (.inl hx) rv (λs3 I5=>assignInOrder_nil (wpAny_pure ?_)) (.inr hx)));rw[List.set_comm _ _ (Ne.symm O0)]at I5;exact⟨_,H1,I5,q1⟩
noncomputable def M5 (c:TT) (tb:TS):TS:=λD σ H=>∃W:Nat->St->Hp->Prop,(∃m,W m σ H)/\∀m σ H,W m σ H->
 c σ H λb H1=>if b=true then ∃N:St->Hp->Prop,(∀bD H',N bD H'->∃m',m'<m/\W m' bD H')/\tb {D with nx:=N,ct:=N,bk:=D.nx} σ H1 else D.nx σ H1
variable {body:List Stmt}
theorem GJ{tc:TT}{tb:TS}(hp:PassesOwn (model X.prog X.w) X.A X.env X.xe)(hc:PT X c tc)(hb:iu X body tb):PS X (.While c body [] pos) (M5 tc tb):=by
 intro pins s σ H D I h;obtain⟨W,⟨m0,w0⟩,turn⟩:=h;refine wpAny_While (codeAny_whileLoop (λn s'=>∃bD H',Inv X pins bD H' s'/\W n bD H') ?_ m0 ⟨σ,H,I,w0⟩);rintro n s1 ⟨tL,H1,I1,w1⟩;refine wpAny_passesOwn hp (bP (hc pins s1 tL H1 _ I1 (turn n tL H1 w1)) λb s2 ⟨H2,I2,q2⟩=>?_);cases b with
 |true=>
  obtain⟨N,hN,q2⟩:=q2;rw[if_pos rfl];refine wpAny_passesOwn hp (bP (hb pins s2 tL H2 _ I2 q2) λf s3 q3=>?_);cases f with
  |next=>
   obtain⟨pW,H3,I3,n3⟩:=q3;obtain⟨m',hm,w3⟩:=hN pW H3 n3;exact⟨m',hm,pW,H3,I3,w3⟩
  |cont=>
   obtain⟨pW,H3,I3,n3⟩:=q3;obtain⟨m',hm,w3⟩:=hN pW H3 n3;exact⟨m',hm,pW,H3,I3,w3⟩
  |brk=>exact q3
  |ret v=>exact q3
 |false=>
  rw[if_neg Bool.false_ne_true];exact wpAny_execs_nil ⟨tL,H2,I2,q2⟩
structure It where
 go:Nat->Hp->Prop
 oh:Nat->Hp->V->Hp->Prop
 stop:Nat->Hp->Prop
def lq (X:Cx) (pins:List (Addr×Obj)) (H:Hp) (b:Addr):Prop:=
 H b=none/\b≠X.env.locals/\b∉X.fs/\(b∈X.ex\/X.aC.heap.objs.size<=b)/\(∀x c,X.env.cells.lookup x=some c->c≠b)/\∀p∈X.pn++pins,p.1≠b
theorem Inv.Ci{s:Shared}{b:Addr}(I:Inv X pins σ H s)(hb:s.heap.objs.size<=b)(hn:H' b=none):lq X pins H' b:=by
 refine⟨hn,ne_of_gt (lt_of_lt_of_le I.lt hb),I.Uv hb,.inr (le_trans I.sz hb),λx c e z=>?_,λp hp z=>?_⟩
 ·obtain⟨v,q⟩:=I.cell x c e;exact absurd (lt_of_lt_of_le q.lt (by rw[z];exact hb)) (lt_irrefl _)
 ·exact absurd (lt_of_lt_of_le (lt_size (I.pin p hp).1) (by rw[z];exact hb)) (lt_irrefl _)
structure Turn (P:Program) (w:World) (K:PySem.W.Frag) (tg:Expr) (J:It) (fp:List Addr) (it:Addr) (tn:Nat->Heap->Prop):Prop where
 mem:it∈fp
 obj:∀i h,tn i h->∀b∈fp,∃o,h.get? b=some o/\∀v,o.data≠.cell v
 keep:∀i h h',tn i h->(∀b∈fp,∀o,h.get? b=some o->h'.get? b=some o)->tn i h'
 item:∀(X:Cx),X.prog=P->X.w=w->X.K=K->X.calm=true->∀(i:Nat) (pins:List (Addr×Obj)) (s:Shared) (σ:St) (H:Hp) (E:Value->Shared->Prop),Inv X pins σ H s->(∀b∈fp,lq X pins H b)->tn i s.heap->J.go i H->
  wpAny (model P w) X.A (pyNext (.ref it)) (λr s1=>∃u,r=some u/\
   wpAny (model P w) X.A (letOwnedTupleGo tg (.ref it) u) (λ_ s2=>∃x H',Inv X pins σ H' s2/\RelV x u/\J.oh i H x H'/\tn (i+1) s2.heap/\∀b∈fp,H' b=none) E s1) E s
 done:∀(X:Cx),X.prog=P->X.w=w->X.K=K->X.calm=true->∀(i:Nat) (pins:List (Addr×Obj)) (s:Shared) (σ:St) (H:Hp) (E:Value->Shared->Prop),Inv X pins σ H s->(∀b∈fp,lq X pins H b)->tn i s.heap->J.stop i H->
  wpAny (model P w) X.A (pyNext (.ref it)) (λr s1=>r=none/\Inv X pins σ H s1) E s
 self:∀(A:Around) (i:Nat) (s:Shared) (Q:Value->Shared->Prop) (E:Value->Shared->Prop),tn i s.heap->Q (.ref it) s->wpAny (model P w) A (pyIter (.ref it)) Q E s
noncomputable abbrev TI:=St->Hp->(It->Hp->Prop)->Prop
def SV (X:Cx) (pins:List (Addr×Obj)) (σ:St) (tg:Expr) (R:It->Hp->Prop) (Eb:Value) (s2:Shared):Prop:=
 ∃(it:Addr) (fp:List Addr) (tn:Nat->Heap->Prop) (J:It) (H':Hp),Eb=.ref it/\Inv X pins σ H' s2/\Turn X.prog X.w X.K tg J fp it tn/\tn 0 s2.heap/\(∀b∈fp,lq X pins H' b)/\R J H'
def PI (X:Cx) (tg iter:Expr) (wi:TI):Prop:=
 ∀(pins:List (Addr×Obj)) (s:Shared) (σ:St) (H:Hp) (R:It->Hp->Prop),Inv X pins σ H s->wi σ H R->
  wpAny (model X.prog X.w) X.A (eval iter X.env) (λv s1=>wpAny (model X.prog X.w) X.A (pyIter v) (SV X pins σ tg R) X.xe s1) X.xe s
theorem xN{s:Shared}{it:Addr}{u:Value}{n:String}{vs:Array Value}{Q:Unit->Shared->Prop}(ho:s.heap.get? it=some o)(hc:o.cls=.type n)(hd:o.data=.fields vs)(hn:["enumerate","zip","dict_itemiterator","dict_reverseitemiterator","odict_iterator","itertools.zip_longest","itertools.pairwise"].contains n=false)(hQ:Q () s):wpAny M A (letOwnedTupleGo tg (.ref it) u) Q E s:=by
 unfold letOwnedTupleGo;cases tg<;>first
  |exact wpAny_pure hQ
  |(cases u<;>first
    |exact wpAny_pure hQ
    |(refine wpAny_bind (wpAny_load ho ?_)
      rw[hc,hd];show wpAny M A (if(["enumerate","zip","dict_itemiterator","dict_reverseitemiterator","odict_iterator","itertools.zip_longest","itertools.pairwise"].contains n&&vs[0]? == some (rawInt _))=true then _ else _) Q E s;rw[if_neg (by intro h;rw[hn,Bool.false_and]at h;cases h)];exact wpAny_pure hQ))
noncomputable def PL (K:PySem.W.Frag) (a:Addr):It:=
 ⟨λi H=>∃xs x,fF K H a xs/\xs[i]?=some x,λi H x H'=>H'=H/\∀xs,fF K H a xs->xs[i]?=some x,λi H=>∃xs,fF K H a xs/\xs.length<=i⟩
noncomputable def PK (K:PySem.W.Frag) (a:Addr):It:=
 ⟨λi H=>∃xs x,jI K H a xs/\xs[i]?=some x,λi H x H'=>H'=H/\∀xs,jI K H a xs->xs[i]?=some x,λi H=>∃xs,jI K H a xs/\xs.length<=i⟩
noncomputable def JM (lo:Int) (n:Nat):It:=⟨λi _=>i<n,λi H x H'=>H'=H/\x=.int (lo+i),λi _=>n<=i⟩
theorem CS{K:PySem.W.Frag}(a it:Addr):Turn P w K tg (PL K a) [it] it (λi h=>h.IsListIter it a i) where
 mem:=by simp
 obj:=λi h st b hb=>by
  have e:b=it:=by simpa using hb
  subst e;obtain⟨o,e,c,d⟩:=st;exact⟨o,e,λv z=>by rw[d]at z;cases z⟩
 keep:=λi h h' st k=>st.at λo e=>k it (by simp) o e
 item:=by
  intro X hP hw hK hc i pins s σ H E I hf st hg;subst hP hw hK;obtain⟨xs,x,hq,hx⟩:=hg;obtain⟨aA,rv,p,hz⟩:=I.list hq;obtain⟨u,hu,ru⟩:=rv.get hx;obtain⟨f0,f1,f2,f3,f4,f5⟩:=hf it (by simp);refine wpAny_pyNext_list_item st p.isList (x:=u) (by simpa using hu) λh' qb sb=>?_;have I1:Inv X pins σ H {s with heap:=h'}:=I.turned (t':=s.toks) (λb o hb e=>(sb.2 b hb).trans e) f0 f1 f3 f4 f5;obtain⟨o,e,c,d⟩:=id qb;exact⟨u,rfl,xN (s:={s with heap:=h'}) e c d (by decide) ⟨x,H,I1,ru,⟨rfl,λys hy=>by rw[I.Hd hy hq];exact hx⟩,qb,λb hb=>(hf b hb).1⟩⟩
 done:=by
  intro X hP hw hK hc i pins s σ H E I hf st hg;subst hP hw hK;obtain⟨xs,hq,hx⟩:=hg;obtain⟨aA,rv,p,hz⟩:=I.list hq;obtain⟨f0,f1,f2,f3,f4,f5⟩:=hf it (by simp);have hl:=rv.length;exact wpAny_pyNext_list_end (I.ok.hd hc) st p.isList (by simp;omega) λh' eb=>⟨rfl,I.turned (t':=s.toks) (λb o hb e=>eb b o hb e) f0 f1 f3 f4 f5⟩
 self:=λ_ _ _ _ _ st h=>wpAny_pyIter_listiter st h
theorem BO{K:PySem.W.Frag}(a it:Addr):Turn P w K tg (PK K a) [it] it (λi h=>h.IsTupleIter it a i) where
 mem:=by simp
 obj:=λi h st b hb=>by
  have e:b=it:=by simpa using hb
  subst e;obtain⟨o,e,c,d⟩:=st;exact⟨o,e,λv z=>by rw[d]at z;cases z⟩
 keep:=λi h h' st k=>st.at λo e=>k it (by simp) o e
 item:=by
  intro X hP hw hK hc i pins s σ H E I hf st hg;subst hP hw hK;obtain⟨xs,x,hq,hx⟩:=hg;obtain⟨aA,rv,p,hz⟩:=I.tuple hq;obtain⟨u,hu,ru⟩:=rv.get hx;obtain⟨f0,f1,f2,f3,f4,f5⟩:=hf it (by simp);refine wpAny_pyNext_tuple_item st (show s.heap.IsTuple a aA.toArray from p) (x:=u) (by simpa using hu) λh' qb sb=>?_;have I1:Inv X pins σ H {s with heap:=h'}:=I.turned (t':=s.toks) (λb o hb e=>(sb.2 b hb).trans e) f0 f1 f3 f4 f5;obtain⟨o,e,c,d⟩:=id qb;exact⟨u,rfl,xN (s:={s with heap:=h'}) e c d (by decide) ⟨x,H,I1,ru,⟨rfl,λys hy=>by rw[I.CT hy hq];exact hx⟩,qb,λb hb=>(hf b hb).1⟩⟩
 done:=by
  intro X hP hw hK hc i pins s σ H E I hf st hg;subst hP hw hK;obtain⟨xs,hq,hx⟩:=hg;obtain⟨aA,rv,p,hz⟩:=I.tuple hq;obtain⟨f0,f1,f2,f3,f4,f5⟩:=hf it (by simp);have hl:=rv.length;exact wpAny_pyNext_tuple_end (I.ok.hd hc) st (show s.heap.IsTuple a aA.toArray from p) (by simp;omega) λh' eb=>⟨rfl,I.turned (t':=s.toks) (λb o hb e=>eb b o hb e) f0 f1 f3 f4 f5⟩
 self:=λ_ _ _ _ _ st h=>wpAny_pyIter_tupleiter st h
theorem BP{K:PySem.W.Frag}(it:Addr)(lo:Int)(n:Nat):Turn P w K tg (JM lo n) [it] it (λi h=>IsRangeIter h it (lo+(i:Nat)*1) ((n:Int)-(i:Nat)) 1) where
 mem:=by simp
 obj:=λi h st b hb=>by
  have e:b=it:=by simpa using hb
  subst e;exact⟨_,st,λv z=>by
   have z':Data.fields _=Data.cell v:=z;cases z'⟩
 keep:=λi h h' st k=>k it (by simp) _ st
 item:=by
  intro X hP hw hK hc i pins s σ H E I hf st hg;subst hP hw hK;obtain⟨f0,f1,f2,f3,f4,f5⟩:=hf it (by simp);have W:=Walks.range (prog:=X.prog) (w:=X.w) (I.ok.hd hc) it lo 1 n;refine W.item i s _ _ hg st λv h' tk hv qb kk=>?_;obtain⟨t,rfl⟩:=hv;have I1:Inv X pins σ H {s with heap:=h',toks:=tk}:=I.turned (λb o hb e=>kk b o (by simpa using hb) e) f0 f1 f3 f4 f5;refine⟨_,rfl,xN (s:={s with heap:=h',toks:=tk}) (n:="range_iterator") qb rfl rfl (by decide) ⟨.int (lo+i),H,I1,⟨t,?_⟩,⟨rfl,rfl⟩,qb,λb hb=>(hf b hb).1⟩⟩;rw[Int.mul_one]
 done:=by
  intro X hP hw hK hc i pins s σ H E I hf st hg;subst hP hw hK;obtain⟨f0,f1,f2,f3,f4,f5⟩:=hf it (by simp);exact wpAny_pyNext_range_end (I.ok.hd hc) st (by have:n<=i:=hg;omega) λh' eb=>⟨rfl,I.turned (t':=s.toks) (λb o hb e=>eb b o hb e) f0 f1 f3 f4 f5⟩
 self:=λ_ _ _ _ _ st h=>wpAny_pyIter_rangeiter st h
open PySem PySem.Spec PyProof.Rows
theorem Gu{s:Shared}{R:It->Hp->Prop}{lo hi:Int}{t u v:Tok}{tk:Nat}(I:Inv X pins σ H s)(h1: -(2^62)<=lo)(h2:lo<2^62)(h3: -(2^62)<=hi)(h4:hi<2^62)(q:R (JM lo (hi-lo).toNat) H):wpAny (model X.prog X.w) X.A (pyIter (.ref s.heap.objs.size)) (SV X pins σ tg R) E {s with heap:=s.heap.push {cls:=.type "range",data:=.fields #[.int lo t,.int hi u,.int 1 v]},toks:=tk}:=by
 refine wpAny_pyIter_range (IsRange.new ..) (small_one h1 h2 h3 h4) ?_;have I1:Inv X pins σ H {s with heap:=s.heap.push {cls:=.type "range",data:=.fields #[.int lo t,.int hi u,.int 1 v]},toks:=tk}:=I.kept λb o e=>get?_push_of_some _ e;refine⟨(s.heap.push {cls:=.type "range",data:=.fields #[.int lo t,.int hi u,.int 1 v]}).objs.size,[(s.heap.push {cls:=.type "range",data:=.fields #[.int lo t,.int hi u,.int 1 v]}).objs.size],_,_,H,rfl,
  I1.kept (t':=tk) λb o e=>get?_push_of_some _ e,BP _ lo (hi-lo).toNat,?_,λb hb=>?_,q⟩
 ·have e1:lo+((0:Nat):Int)*1=lo:=by simp
  have e2:(((hi-lo).toNat:Nat):Int)-((0:Nat):Int)=Builtin.Range.rangeSize lo hi 1:=by rw[rangeSize_one];split<;>omega
  show IsRangeIter _ _ (lo+((0:Nat):Int)*1) ((((hi-lo).toNat:Nat):Int)-((0:Nat):Int)) 1;rw[e1,e2];exact get?_push_size _ rfl
 ·have e:b=(s.heap.push {cls:=.type "range",data:=.fields #[.int lo t,.int hi u,.int 1 v]}).objs.size:=by simpa using hb
  subst e;exact I1.Ci (le_refl _) (I1.hok.fresh (le_refl _))
noncomputable def QH (ta:TA):TI:=λσ H R=>ta σ H λvs H1=>∃j:Int,vs=[.int j]/\-(2^62)<=j/\j<2^62/\R (JM 0 j.toNat) H1
theorem wx{ta:TA}{p:Pos}(hg:Gl X "range")(hm:X.mg "range"=none)(ha:PA X [a] ta)(hs:starEach [a] X.env=[(false,eval a X.env)]:=by rfl):PI X tg (.Call (.Name "range" p) [a] [] pos) (QH ta):=by
 intro pins s σ H R I h;refine Call_ (qC I hg hm boot_range (PyProof.Rows.callWith_type1 (bP (ha pos pins s σ H _ I h) λus s1 ⟨vs,H1,I1,r1,q1⟩=>?_) hs rfl));obtain⟨j,e,q1,q2,q⟩:=q1;subst e;cases r1 with
 |cons r rr=>
  cases rr;obtain⟨t,rfl⟩:=r;exact call_range_1 (Gu I1 (by omega) (by omega) q1 q2 (by simpa using q))
noncomputable def U9 (wi:TI) (g:TG) (tb:TS):TS:=λD σ H=>wi σ H λJ H1=>∃W:Nat->Nat->St->Hp->Prop,(∃m,W 0 m σ H1)/\∀i m σ H,W i m σ H->
 (J.stop i H/\D.nx σ H)\/(J.go i H/\∃N:St->Hp->Prop,(∀bD H',N bD H'->∃m',m'<m/\W (i+1) m' bD H')/\∀x H',J.oh i H x H'->g x σ H' λdU H2=>tb {D with nx:=N,ct:=N,bk:=D.nx} dU H2)
noncomputable def oz (fp:List Addr) (h:Heap):List (Addr×Obj):=fp.filterMap λb=>(h.get? b).map λo=>(b,o)
variable {fp:List Addr}
theorem jk{b:Addr}(hb:b∈fp)(e:h.get? b=some o):(b,o)∈oz fp h:=mem_filterMap.mpr ⟨b,hb,by rw[e];rfl⟩
theorem DR{p:Addr×Obj}(hp:p∈oz fp h):p.1∈fp/\h.get? p.1=some p.2:=by
 obtain⟨b,hb,e⟩:=mem_filterMap.mp hp;cases q:h.get? b with
 |none=>rw[q]at e;cases e
 |some o=>
  rw[q]at e;have e':(b,o)=p:=Option.some.inj e;subst e';exact⟨hb,q⟩
theorem Inv.pinned{s:Shared}(I:Inv X pins σ H s)(hf:∀b∈fp,lq X pins H b)(ho:∀b∈fp,∃o,s.heap.get? b=some o/\∀v,o.data≠.cell v):Inv X (pins++oz fp s.heap) σ H s:=
 I.jZ λp hp=>(mem_append.mp hp).elim (λz=>I.pin p (mem_append_right _ z)) λz=>by
  obtain⟨hb,e⟩:=DR z;obtain⟨f0,f1,f2,_⟩:=hf p.1 hb;obtain⟨o,e',d⟩:=ho p.1 hb;rw[e]at e';cases e';exact⟨e,f0,f1,f2,d⟩
theorem Inv.sJ{pl:List (Addr×Obj)}{s:Shared}(I:Inv X (pins++pl) σ H s):Inv X pins σ H s:=I.jZ λp hp=>I.pin p (mem_append_right _ (mem_append_left _ hp))
variable {iter:Expr} {wi:TI}
theorem yI{g:TG}{tb:TS}(hp:PassesOwn (model X.prog X.w) X.A X.env X.xe)(hc:X.calm=true)(hi:PI X tg iter wi)(hg:PG X tg g)(hb:iu X body tb)(hs:∀x,foldedSetIterable iter X.env x=pure x:=by intro _;rfl):PS X (.For tg iter body [] pos) (U9 wi g tb):=by
 intro pins s σ H D I h;refine wpAny_For (bP (hi pins s σ H _ I h) λv s1 h1=>bP h1 λEb s2 h2=>?_) hs;obtain⟨it,fp,tn,J,H2,e,I2,T,lF,f2,W,⟨m0,w0⟩,turn⟩:=h2;subst e

 have mX:∀{H':Hp},(∀b∈fp,H' b=none)->∀b∈fp,lq X pins H' b:=λhn b hb=>⟨hn b hb,(f2 b hb).2⟩;refine codeAny_forLoop_any (λn s'=>∃i bD H',Inv X pins bD H' s'/\tn i s'.heap/\(∀b∈fp,H' b=none)/\W i n bD H') ?_ m0 ⟨0,σ,H2,I2,lF,λb hb=>(f2 b hb).1,w0⟩;rintro n s3 ⟨i,pW,H3,I3,Rm,So,w3⟩;rcases turn i n pW H3 w3 with⟨stop,qn⟩|⟨go,N,hN,step⟩
 ·refine wpAny_passesOwn hp (bP (T.done X rfl rfl rfl hc i pins s3 pW H3 X.xe I3 (mX So) Rm stop) λr s4 ⟨hr,I4⟩=>?_);subst hr;exact wpAny_execs_nil ⟨pW,H3,I4,qn⟩
 ·refine wpAny_passesOwn hp (bP (T.item X rfl rfl rfl hc i pins s3 pW H3 X.xe I3 (mX So) Rm go) λr s4 ⟨u,hr,h4⟩=>?_);subst hr;refine wpAny_passesOwn hp (bP h4 λ_ s5 ⟨x,H5,I5,r5,y5,q9,ED⟩=>?_);have FZ:=I5.pinned (mX ED) (T.obj _ _ q9);refine wpAny_passesOwn hp (bP (hg _ s5 pW H5 x u _ FZ r5 (step x H5 y5)) λ_ s6 ⟨tK,H6,I6,q6⟩=>?_);refine wpAny_passesOwn hp (bP (hb _ s6 tK H6 _ I6 q6) λf s7 q7=>?_);have again:∀{pV:St} {H7:Hp},Inv X (pins++oz fp s5.heap) pV H7 s7->N pV H7->∃m,m<n/\∃i bD H',Inv X pins bD H' s7/\tn i s7.heap/\(∀b∈fp,H' b=none)/\W i m bD H':=fun{pV H7} I7 n7=>by
   obtain⟨m',hm,w7⟩:=hN pV H7 n7;refine⟨m',hm,i+1,pV,H7,I7.sJ,T.keep _ _ _ q9 λb hb o e=>(I7.pin (b,o) (mem_append_right _ (mem_append_right _ (jk hb e)))).1,λb hb=>?_,w7⟩;obtain⟨o,e,d⟩:=T.obj _ _ q9 b hb;exact(I7.pin (b,o) (mem_append_right _ (mem_append_right _ (jk hb e)))).2.1
  cases f with
  |next=>obtain⟨pV,H7,I7,n7⟩:=q7;exact again I7 n7
  |cont=>obtain⟨pV,H7,I7,n7⟩:=q7;exact again I7 n7
  |brk=>obtain⟨pV,H7,I7,q7⟩:=q7;exact⟨pV,H7,I7.sJ,q7⟩
  |ret v=>obtain⟨x7,pV,H7,I7,r7,q7⟩:=q7;exact⟨x7,pV,H7,I7.sJ,r7,q7⟩
open PySem PySem.Spec PyProof.Rows
noncomputable abbrev R2:=V->V->Hp->VK->Prop
def dF (X:Cx) (f:Value->Value->Sem Value) (r:R2):Prop:=
 ∀(pins:List (Addr×Obj)) (s:Shared) (σ:St) (H:Hp) (x y:V) (v u:Value) (Q:VK),Inv X pins σ H s->RelV x v->RelV y u->r x y H Q->
  wpAny (model X.prog X.w) X.A (f v u) (EP X pins σ Q) X.xe s
def JF (X:Cx) (f:Value->Sem Value) (r:V->Hp->VK->Prop):Prop:=
 ∀(pins:List (Addr×Obj)) (s:Shared) (σ:St) (H:Hp) (x:V) (v:Value) (Q:VK),Inv X pins σ H s->RelV x v->r x H Q->
  wpAny (model X.prog X.w) X.A (f v) (EP X pins σ Q) X.xe s
def iK (X:Cx) (f:Value) (r:List V->Hp->VK->Prop):Prop:=
 ∀(pins:List (Addr×Obj)) (s:Shared) (σ:St) (H:Hp) (xs:List V) (us:List Value) (Q:VK),Inv X pins σ H s->Vals xs us->r xs H Q->
  wpAny (model X.prog X.w) X.A (call f us) (EP X pins σ Q) X.xe s
def V6 (X:Cx) (r:V->Hp->(Bool->Hp->Prop)->Prop):Prop:=
 ∀(pins:List (Addr×Obj)) (s:Shared) (σ:St) (H:Hp) (x:V) (v:Value) (Q:Bool->Hp->Prop),Inv X pins σ H s->RelV x v->r x H Q->
  wpAny (model X.prog X.w) X.A (truthy v) (TP X pins σ Q) X.xe s
noncomputable def yc (r:R2) (ta tb:TE):TE:=λσ H Q=>ta σ H λx H1=>tb σ H1 λy H2=>r x y H2 Q
noncomputable def Vp (r:V->Hp->VK->Prop) (ta:TE):TE:=λσ H Q=>ta σ H λx H1=>r x H1 Q
noncomputable def rI (C:Int->Int->Prop) (g:Int->Int->V):R2:=λx y H Q=>∃i j,x=.int i/\y=.int j/\C i j/\Q (g i j) H
noncomputable def wg (g:Int->Int->V):R2:=λx y H Q=>∃i j,x=.int i/\y=.int j/\Q (g i j) H
noncomputable def rU (g:Int->V):V->Hp->VK->Prop:=λx H Q=>∃i,x=.int i/\Q (g i) H
variable {f:Value->Value->Sem Value}
theorem Ct(ha:PE X a ta)(hb:PE X b tb){s:Shared}{R:V->V->Hp->Prop}(I:Inv X pins σ H s)(h:ta σ H λx H1=>tb σ H1 λy H2=>R x y H2){Q:Value->Shared->Prop}(hf:∀v u s2 x y H2,Inv X pins σ H2 s2->RelV x v->RelV y u->R x y H2->wpAny (model X.prog X.w) X.A (f v u) Q X.xe s2):
  wpAny (model X.prog X.w) X.A (eval a X.env) (λv bX=>wpAny (model X.prog X.w) X.A (eval b X.env) (λu bx=>wpAny (model X.prog X.w) X.A (f v u) Q X.xe bx) X.xe bX) X.xe s:=by
 refine bP (ha pins s σ H _ I h) λv s1 ⟨x,H1,I1,r1,q1⟩=>?_;refine bP (hb pins s1 σ H1 _ I1 q1) λu s2 ⟨y,H2,I2,r2,q2⟩=>?_;exact hf v u s2 x y H2 I2 r1 r2 q2
theorem rG{op:Operator}{r:R2}(ho:dF X (binaryOp op) r)(ha:PE X a ta)(hb:PE X b tb):PE X (.BinOp a op b pos) (yc r ta tb):=by
 intro pins s σ H Q I h;exact wpAny_BinOp (Ct ha hb I h λv u s2 x y H2 I2 rx ry q=>ho pins s2 σ H2 x y v u Q I2 rx ry q)
theorem Qr{op:UnaryOp}{r:V->Hp->VK->Prop}(ho:JF X (unaryOp op) r)(ha:PE X a ta):PE X (.UnaryOp op a pos) (Vp r ta):=by
 intro pins s σ H Q I h;exact UnaryOp_ (bP (ha pins s σ H _ I h) λv s1 ⟨x,H1,I1,r1,q1⟩=>ho pins s1 σ H1 x v Q I1 r1 q1)
theorem B2{C:Int->Int->Prop}{g:Int->Int->Int}(rule:∀(i j:Int) (t u:Tok) (s:Shared) (Q:Value->Shared->Prop) (E:Value->Shared->Prop),C i j->Q (.int (g i j) s.toks) {s with toks:=s.toks+1}->wpAny (model X.prog X.w) X.A (f (.int i t) (.int j u)) Q E s):
  dF X f (rI C λi j=>.int (g i j)):=by
 intro pins s σ H x y v u Q I rx ry h;obtain⟨i,j,rfl,rfl,hc,q⟩:=h;obtain⟨t,rfl⟩:=rx;obtain⟨t',rfl⟩:=ry;exact rule i j t t' s _ _ hc ⟨.int (g i j),H,I.tok _,⟨_,rfl⟩,q⟩
theorem Us{g:Int->Int->Int}(rule:∀(i j:Int) (t u:Tok) (s:Shared) (Q:Value->Shared->Prop) (E:Value->Shared->Prop),Q (.int (g i j) s.toks) {s with toks:=s.toks+1}->wpAny (model X.prog X.w) X.A (f (.int i t) (.int j u)) Q E s):
  dF X f (wg λi j=>.int (g i j)):=by
 intro pins s σ H x y v u Q I rx ry h;obtain⟨i,j,rfl,rfl,q⟩:=h;obtain⟨t,rfl⟩:=rx;obtain⟨t',rfl⟩:=ry;exact rule i j t t' s _ _ ⟨.int (g i j),H,I.tok _,⟨_,rfl⟩,q⟩
theorem C3{g:Int->Int->Bool}(rule:∀(i j:Int) (t u:Tok) (s:Shared) (Q:Value->Shared->Prop) (E:Value->Shared->Prop),Q (.bool (g i j)) s->wpAny (model X.prog X.w) X.A (f (.int i t) (.int j u)) Q E s):
  dF X f (wg λi j=>.bl (g i j)):=by
 intro pins s σ H x y v u Q I rx ry h;obtain⟨i,j,rfl,rfl,q⟩:=h;obtain⟨t,rfl⟩:=rx;obtain⟨t',rfl⟩:=ry;exact rule i j t t' s _ _ ⟨.bl (g i j),H,I,rfl,q⟩
def Ah (i j:Int):Prop:=0<=j/\j<=1000000/\i.natAbs<2^64
theorem BN(k:Nat):(0:Int)<=2^k:=by
 rw[two_pow_cast];exact Int.natCast_nonneg _
theorem yU:dF X (binaryOp .Add) (wg λi j=>.int (i+j)):=Us λ_ _ _ _ _ _ _ q=>add_int q
theorem N4:dF X (binaryOp .Pow) (rI Ah λi j=>.int (i^j.toNat)):=B2 λ_ _ _ _ _ _ _ hc q=>pow_int_small hc.1 hc.2.1 hc.2.2 q
theorem N3:dF X (binaryOp .RShift) (rI (λ_ j=>0<=j) λi j=>.int (i/2^j.toNat)):=B2 λi j _ _ _ _ _ hc q=>
 rshift_int hc (by rw[Int.fdiv_eq_ediv_of_nonneg i (BN _)];exact q)
theorem Vm{f:Value->Sem Value}{g:Int->Int}(rule:∀(i:Int) (t:Tok) (s:Shared) (Q:Value->Shared->Prop) (E:Value->Shared->Prop),Q (.int (g i) s.toks) {s with toks:=s.toks+1}->wpAny (model X.prog X.w) X.A (f (.int i t)) Q E s):
  JF X f (rU λi=>.int (g i)):=by
 intro pins s σ H x v Q I rx h;obtain⟨i,rfl,q⟩:=h;obtain⟨t,rfl⟩:=rx;exact rule i t s _ _ ⟨.int (g i),H,I.tok _,⟨_,rfl⟩,q⟩
theorem LO:JF X (unaryOp .USub) (rU λi=>.int (-i)):=Vm λ_ _ _ _ _ q=>neg_int q
noncomputable def Mt:V->V->Bool
 | .bU,.bU=>true| .bU,.int _=>true| .int _,.bU=>true| .bU,.bl _=>true| .bl _,.bU=>true| .bU,.str _=>true| .str _,.bU=>true
 | .int _,.int _=>true| .bl _,.bl _=>true| .str _,.str _=>true| .nH _,.nH _=>true
 | .int _,.str _=>true| .str _,.int _=>true| .bl _,.str _=>true| .str _,.bl _=>true
 |_,_=>false
noncomputable def Rz:R2:=λx y H Q=>Mt x y=true/\Q (.bl (decide (x=y))) H
noncomputable def Ry:R2:=λx y H Q=>Mt x y=true/\Q (.bl (!decide (x=y))) H
theorem BA{i j:Int}:decide (V.int i=V.int j)=(i==j):=by
 rw[Bool.eq_iff_iff];simp
theorem uL{i j:Bool}:decide (V.bl i=V.bl j)=(i==j):=by
 rw[Bool.eq_iff_iff];simp
theorem Bz{i j:Str}:decide (V.str i=V.str j)=(i==j):=by
 rw[Bool.eq_iff_iff];simp
theorem BB{i j:Array UInt8}:decide (V.nH i=V.nH j)=(i.toList==j.toList):=by
 rw[Bool.eq_iff_iff];cases i;cases j;simp
variable {Q:VK}
theorem cp{s:Shared}{k k':Bool}(I:Inv X pins σ H s)(q:Q (.bl k) H)(e:k=k'):EP X pins σ Q (.bool k') s:=by
 subst e;exact⟨.bl k,H,I,rfl,q⟩
theorem II:dF X (compareOp .Eq) Rz:=by
 intro pins s σ H x y v u Q I rx ry h;obtain⟨hs,q⟩:=h;cases x with
 |bU=>
  cases rx;cases y with
  |bU=>cases ry;exact PySem.EqNone.eq_none_none (cp I q (by simp))
  |bl j=>cases ry;exact PySem.EqNone.eq_none_bool (cp I q (by simp))
  |int j=>obtain⟨t',rfl⟩:=ry;exact PySem.EqNone.eq_none_int (cp I q (by simp))
  |str j=>obtain⟨t',rfl⟩:=ry;exact PySem.EqNone.eq_none_str (cp I q (by simp))
  |_=>exact absurd (show false=true from hs) Bool.false_ne_true
 |bl i=>
  cases rx;cases y with
  |bU=>cases ry;exact PySem.EqNone.eq_bool_none (cp I q (by simp))
  |bl j=>cases ry;exact eq_bool (cp I q uL)
  |str j=>obtain⟨t',rfl⟩:=ry;exact PySem.EqMixed.eq_bool_str (cp I q (by simp))
  |_=>exact absurd (show false=true from hs) Bool.false_ne_true
 |int i=>
  obtain⟨t,rfl⟩:=rx;cases y with
  |bU=>cases ry;exact PySem.EqNone.eq_int_none (cp I q (by simp))
  |int j=>obtain⟨t',rfl⟩:=ry;exact eq_int (cp I q BA)
  |str j=>obtain⟨t',rfl⟩:=ry;exact PySem.EqMixed.eq_int_str (cp I q (by simp))
  |_=>exact absurd (show false=true from hs) Bool.false_ne_true
 |str i=>
  obtain⟨t,rfl⟩:=rx;cases y with
  |bU=>cases ry;exact PySem.EqNone.eq_str_none (cp I q (by simp))
  |bl j=>cases ry;exact PySem.EqMixed.eq_str_bool (cp I q (by simp))
  |int j=>obtain⟨t',rfl⟩:=ry;exact PySem.EqMixed.eq_str_int (cp I q (by simp))
  |str j=>obtain⟨t',rfl⟩:=ry;exact eq_str (cp I q Bz)
  |_=>exact absurd (show false=true from hs) Bool.false_ne_true
 |nH i=>
  obtain⟨t,rfl⟩:=rx;cases y with
  |nH j=>obtain⟨t',rfl⟩:=ry;exact PySem.W.eq_bytes (cp I q BB)
  |_=>exact absurd (show false=true from hs) Bool.false_ne_true
 |_=>cases y<;>exact absurd (show false=true from hs) Bool.false_ne_true
theorem IF:dF X (compareOp .NotEq) Ry:=by
 intro pins s σ H x y v u Q I rx ry h;obtain⟨hs,q⟩:=h;cases x with
 |bU=>
  cases rx;cases y with
  |bU=>cases ry;exact PySem.EqNone.ne_none_none (cp I q (by simp))
  |bl j=>cases ry;exact PySem.EqNone.ne_none_bool (cp I q (by simp))
  |int j=>obtain⟨t',rfl⟩:=ry;exact PySem.EqNone.ne_none_int (cp I q (by simp))
  |str j=>obtain⟨t',rfl⟩:=ry;exact PySem.EqNone.ne_none_str (cp I q (by simp))
  |_=>exact absurd (show false=true from hs) Bool.false_ne_true
 |bl i=>
  cases rx;cases y with
  |bU=>cases ry;exact PySem.EqNone.ne_bool_none (cp I q (by simp))
  |bl j=>cases ry;exact ne_bool (cp I q (congrArg not uL))
  |str j=>obtain⟨t',rfl⟩:=ry;exact PySem.EqMixed.ne_bool_str (cp I q (by simp))
  |_=>exact absurd (show false=true from hs) Bool.false_ne_true
 |int i=>
  obtain⟨t,rfl⟩:=rx;cases y with
  |bU=>cases ry;exact PySem.EqNone.ne_int_none (cp I q (by simp))
  |int j=>obtain⟨t',rfl⟩:=ry;exact ne_int (cp I q (congrArg not BA))
  |str j=>obtain⟨t',rfl⟩:=ry;exact PySem.EqMixed.ne_int_str (cp I q (by simp))
  |_=>exact absurd (show false=true from hs) Bool.false_ne_true
 |str i=>
  obtain⟨t,rfl⟩:=rx;cases y with
  |bU=>cases ry;exact PySem.EqNone.ne_str_none (cp I q (by simp))
  |bl j=>cases ry;exact PySem.EqMixed.ne_str_bool (cp I q (by simp))
  |int j=>obtain⟨t',rfl⟩:=ry;exact PySem.EqMixed.ne_str_int (cp I q (by simp))
  |str j=>obtain⟨t',rfl⟩:=ry;exact ne_str (cp I q (congrArg not Bz))
  |_=>exact absurd (show false=true from hs) Bool.false_ne_true
 |nH i=>
  obtain⟨t,rfl⟩:=rx;cases y with
  |nH j=>obtain⟨t',rfl⟩:=ry;exact PySem.W.ne_bytes (cp I q (congrArg not BB))
  |_=>exact absurd (show false=true from hs) Bool.false_ne_true
 |_=>cases y<;>exact absurd (show false=true from hs) Bool.false_ne_true
theorem IG:dF X (compareOp .Lt) (wg λi j=>.bl (decide (i<j))):=C3 λ_ _ _ _ _ _ _ q=>lt_int q
theorem uf:dF X (compareOp .LtE) (wg λi j=>.bl (decide (i<=j))):=C3 λ_ _ _ _ _ _ _ q=>le_int q
theorem IH:dF X (compareOp .Gt) (wg λi j=>.bl (decide (j<i))):=C3 λ_ _ _ _ _ _ _ q=>gt_int q
theorem Qv:dF X (compareOp .GtE) (wg λi j=>.bl (decide (j<=i))):=C3 λ_ _ _ _ _ _ _ q=>ge_int q
theorem wA:dF X (compareOp .In) (λx y H Q=>∃i j,x=.str i/\y=.str j/\Q (.bl (!(Builtin.Str.occurrences j i 0 j.length 1).isEmpty)) H):=by
 intro pins s σ H x y v u Q I rx ry h;obtain⟨i,j,rfl,rfl,q⟩:=h;obtain⟨t,rfl⟩:=rx;obtain⟨t',rfl⟩:=ry;exact in_str (cp I q rfl)
theorem KH:dF X (compareOp .IsNot) (λx y H Q=>y=.bU/\Q (.bl (!decide (x=.bU))) H):=by
 intro pins s σ H x y v u Q I rx ry h;obtain⟨rfl,q⟩:=h;cases ry;refine isnot_none_gen (cp I q ?_);cases x<;>first
  |(cases rx;rfl)
  |(obtain⟨t,rfl⟩:=rx;rfl)
noncomputable def isObj:HO->Bool
 | .lst _=>true
 | .ins _ _ _=>true
 |_=>false
theorem obj_there{s:Shared}{a:Addr}{o:HO}(I:Inv X pins σ H s)(h:H a=some o)(p:isObj o=true):∃ob,s.heap.get? a=some ob/\ob.cls≠.type "tuple":=by
 cases o with
 |lst xs=>
  obtain⟨_,aA,n,_,e⟩:xs.length<=sizeLine/\∃(aA:List Value) (n:Nat),Vals xs aA/\s.heap.get? a=some {cls:=.type "list",data:=.seq aA.toArray n}:=I.hok a _ h;exact⟨_,e,(by show Value.type "list"≠.type "tuple";decide +kernel)⟩
 |ins C dx fs=>
  have x:=I.hok a _ h;obtain⟨_,_,_,e,_⟩:=x;exact⟨_,e,(by show Value.ref C≠.type "tuple";exact λz=>by cases z)⟩
 |_=>exact absurd (show false=true from p) Bool.false_ne_true
variable {r':R2}
theorem dF.or{r:R2}(h:dF X f r)(h':dF X f r'):dF X f (λx y H Q=>r x y H Q\/r' x y H Q):=by
 intro pins s σ H x y v u Q I rx ry q;rcases q with q|q
 ·exact h pins s σ H x y v u Q I rx ry q
 ·exact h' pins s σ H x y v u Q I rx ry q
variable {op:CmpOp}
theorem gN(b:Expr)(h:op≠.In:=by decide)(h2:op≠.NotIn:=by decide):behindInMarks op b=false:=by
 have e1:(op==CmpOp.In)=false:=by cases op<;>first|rfl|exact absurd rfl h
 have e2:(op==CmpOp.NotIn)=false:=by cases op<;>first|rfl|exact absurd rfl h2
 cases b<;>simp[behindInMarks,e1,e2]
theorem KA{r:R2}(ho:dF X (compareOp op) r)(ha:PE X a ta)(hb:PE X b tb)(hm:behindInMarks op b=false):PE X (.Compare a [op] [b] pos) (yc r ta tb):=by
 intro pins s σ H Q I h;exact wpAny_Compare1 (Ct ha hb I h λv u s2 x y H2 I2 rx ry q=>ho pins s2 σ H2 x y v u Q I2 rx ry q) hm
noncomputable def BQ (t:TE):TT:=λσ H Q=>t σ H λx H'=>∃k,x=.bl k/\Q k H'
theorem AR{r:R2}(ho:dF X (compareOp op) r)(ha:PE X a ta)(hb:PE X b tb)(hm:behindInMarks op b=false):PT X (.Compare a [op] [b] pos) (BQ (yc r ta tb)):=by
 intro pins s σ H Q I h;refine wpAny_isTrue_Compare1 (bP (ha pins s σ H _ I h) λv s1 ⟨x,H1,I1,r1,q1⟩=>bP (hb pins s1 σ H1 _ I1 q1) λu s2 ⟨y,H2,I2,r2,q2⟩=>
  bP (ho pins s2 σ H2 x y v u _ I2 r1 r2 q2) λc s3 ⟨z,H3,I3,r3,k,e,q3⟩=>?_) hm
 subst e;cases r3;exact wpAny_truthy_bool ⟨H3,I3,q3⟩
variable {tc:TE}
noncomputable def ye (r r':R2) (ta tb tc:TE):TE:=λσ H Q=>ta σ H λx H1=>tb σ H1 λy H2=>r x y H2 λz H3=>∃k,z=.bl k/\
 (if k=true then tc σ H3 λw' H4=>r' y w' H4 Q else Q (.bl false) H3)
variable {rX:CmpOp}
theorem GR{r:R2}(ho:dF X (compareOp op) r)(nB:dF X (compareOp rX) r')(ha:PE X a ta)(hb:PE X b tb)(hc:PE X c tc)(hm:lastMarks [op,rX] [b,c]=false:=by with_unfolding_all rfl):PE X (.Compare a [op,rX] [b,c] pos) (ye r r' ta tb tc):=by
 intro pins s σ H Q I h;refine Compare_chain (bP (ha pins s σ H _ I h) λv s1 ⟨x,H1,I1,r1,q1⟩=>chain_link (bP (hb pins s1 σ H1 _ I1 q1) λu s2 ⟨y,H2,I2,r2,q2⟩=>
  bP (ho pins s2 σ H2 x y v u _ I2 r1 r2 q2) λd s3 ⟨z,H3,I3,r3,k,e,q3⟩=>?_)) hm
 subst e;cases r3;refine wpAny_truthy_bool ?_;cases k with
 |false=>exact ite_ff ⟨.bl false,H3,I3,rfl,q3⟩
 |true=>exact ite_tt (chain_last (bP (hc pins s3 σ H3 _ I3 q3) λw' s4 ⟨z',H4,I4,r4,q4⟩=>nB pins s4 σ H4 y z' u w' Q I4 r2 r4 q4))
theorem GF{r:R2}(ho:dF X (compareOp op) r)(nB:dF X (compareOp rX) r')(ha:PE X a ta)(hb:PE X b tb)(hc:PE X c tc)(hm:lastMarks [op,rX] [b,c]=false:=by with_unfolding_all rfl):PT X (.Compare a [op,rX] [b,c] pos) (BQ (ye r r' ta tb tc)):=by
 intro pins s σ H Q I h;refine isTrue_chain (bP (ha pins s σ H _ I h) λv s1 ⟨x,H1,I1,r1,q1⟩=>test_link (bP (hb pins s1 σ H1 _ I1 q1) λu s2 ⟨y,H2,I2,r2,q2⟩=>
  bP (ho pins s2 σ H2 x y v u _ I2 r1 r2 q2) λd s3 ⟨z,H3,I3,r3,k,e,q3⟩=>?_)) hm
 subst e;cases r3;refine wpAny_truthy_bool ?_;cases k with
 |false=>
  obtain⟨k',e',q'⟩:=q3;cases e';exact ite_ff ⟨H3,I3,q'⟩
 |true=>
  refine ite_tt (test_last (bP (hc pins s3 σ H3 _ I3 q3) λw' s4 ⟨z',H4,I4,r4,q4⟩=>bP (nB pins s4 σ H4 y z' u w' _ I4 r2 r4 q4) λd' s5 ⟨z2,H5,I5,r5,k2,e2,q5⟩=>?_));subst e2;cases r5;exact wpAny_truthy_bool ⟨H5,I5,q5⟩
def HY (K:PySem.W.Frag) (x:V) (H:Hp) (k:Bool):Prop:=
 match x with
 | .bU=>k=false
 | .bl b=>k=b
 | .int i=>k=(i !=0)
 | .str y=>y.length<=sizeLine/\k=((y.length:Int) !=0)
 | .nH y=>y.size<=sizeLine/\k=((y.size:Int) !=0)
 | .ref p=>(∃xs,fF K H p xs/\k=!xs.isEmpty)\/(∃xs,jI K H p xs/\k=!xs.isEmpty)\/∃cc,H p=some (.dK cc)/\k=!cc.isEmpty
 |_=>False
theorem C7{κ:Type}{cc:List (κ×V)}{vs:List (κ×Value)}(r:KV cc vs):(!vs.isEmpty)=!cc.isEmpty:=by
 cases r<;>rfl
variable {aA:List Value}
theorem uv(r:Vals xs aA):(!aA.toArray.isEmpty)=!xs.isEmpty:=by
 cases r<;>simp
theorem qA:(sizeLine:Nat)<2^63:=by rw[sizeLine_eq];decide
theorem LU:V6 X (λx H Q=>∃k,HY X.K x H k/\Q k H):=by
 intro pins s σ H x v Q I rx h;obtain⟨k,e,q⟩:=h;have hl:=qA;have hs:sizeLine=16777216:=sizeLine_eq;cases x with
 |bU=>
  cases rx;have e':k=false:=e;subst e';exact truthy_none ⟨H,I,q⟩
 |bl b=>
  cases rx;have e':k=b:=e;subst e';exact wpAny_truthy_bool ⟨H,I,q⟩
 |int i=>
  obtain⟨t,rfl⟩:=rx;have e':k=(i !=0):=e;subst e';exact PySem.P.truthy_int ⟨H,I,q⟩
 |str y=>
  obtain⟨t,rfl⟩:=rx;obtain⟨hy,e'⟩:y.length<=sizeLine/\k=((y.length:Int) !=0):=e;subst e';exact PySem.P.truthy_str (by omega) ⟨H,I.tok _,q⟩
 |nH y=>
  obtain⟨t,rfl⟩:=rx;obtain⟨hy,e'⟩:y.size<=sizeLine/\k=((y.size:Int) !=0):=e;subst e';exact PySem.W.truthy_bytes (by omega) ⟨H,I.tok _,q⟩
 |ref p=>
  cases rx;have e':(∃xs,fF X.K H p xs/\k=!xs.isEmpty)\/(∃xs,jI X.K H p xs/\k=!xs.isEmpty)\/∃cc,H p=some (.dK cc)/\k=!cc.isEmpty:=e;rcases e' with⟨xs,hx,e'⟩|⟨xs,hx,e'⟩|⟨cc,hx,e'⟩
  ·subst e';obtain⟨aA,r,pl,hz⟩:=I.list hx;have hlen:=r.length;exact wpAny_truthy_list pl.isList (by simp only[size_toArray];omega) ⟨H,I.tok _,by rw[uv r];exact q⟩
  ·subst e';obtain⟨aA,r,pl,hz⟩:=I.tuple hx;have hlen:=r.length;exact truthy_tuple pl (by simp only[size_toArray];omega) ⟨H,I.tok _,by rw[uv r];exact q⟩
  ·subst e';obtain⟨hz,hS,vs,r,m⟩:cc.length<=sizeLine/\(p==sysModules)=false/\∃vs,KV cc vs/\s.heap.DictOf (jj X.prog X.w) p vs:=I.hok p _ hx;have hlen:cc.length=vs.length:=Paired.length r;exact wpAny_truthy_dict hS m (by omega) ⟨H,I.tok _,by rw[C7 r];exact q⟩
 |_=>exact(show False from e).elim
theorem GD(ha:PE X a ta)(he:∀whole,isTrue a X.env whole=(do let v <- whole;standAt a.pos;holding [v] (truthy v))):
  PT X a (λσ H Q=>ta σ H λx H'=>∃k,HY X.K x H' k/\Q k H'):=by
 intro pins s σ H Q I h;exact isTrue_plain (bP (ha pins s σ H _ I h) λv s1 ⟨x,H1,I1,r1,q1⟩=>LU pins s1 σ H1 x v Q I1 r1 q1) (he _)
theorem pq:dF X (binaryOp .Add) (λx y H Q=>∃i j,x=.str i/\y=.str j/\i.length+j.length<=sizeLine/\Q (.str (i++j)) H):=by
 intro pins s σ H x y v u Q I rx ry h;obtain⟨i,j,rfl,rfl,hz,q⟩:=h;obtain⟨t,rfl⟩:=rx;obtain⟨t',rfl⟩:=ry;exact add_str (λt' tk=>⟨.str (i++j),H,I.tok _,⟨_,rfl⟩,q⟩) hz
def tH (b:Expr):Prop:=∀o i,subscripted b false o i=operate [o,i] (getItem o i)
theorem Ai(ha:PE X a ta)(hb:PE X b tb)(hs:tH b):
  PE X (.Subscript a b pos) (yc (λx y H Q=>∃z i c,x=.str z/\y=.int i/\0<=i/\i<2^63/\i<z.length/\z.cps[i.toNat]?=some c/\Q (.str ⟨#[c]⟩) H) ta tb):=by
 intro pins s σ H Q I h;refine Subscript_ (Ct ha hb I h λv u s2 x y H2 I2 rx ry q=>?_);obtain⟨z,i,c,rfl,rfl,h0,X9,h1,hc,q⟩:=q;obtain⟨t,rfl⟩:=rx;obtain⟨t',rfl⟩:=ry;have e:seqIndex? i z.length=some i.toNat:=PySem.StrLaws.seqIndex_nonneg h0 h1;exact tail_any (typeIs_str s2 z t) slot_str_getitem.lookup (getItem_str (c:=c) (by
  have e1:decide (i < -(2^63:Int))=false:=decide_eq_false (by omega);have e2:decide (i>=2^63)=false:=decide_eq_false (by omega);rw[e1,e2]<;>rfl) (by rw[e];exact hc) ⟨.str ⟨#[c]⟩,H2,I2.tok _,⟨_,rfl⟩,q⟩) (hs _ _)
theorem vals1{x:V}(r:Vals [x] us):∃u,us=[u]/\RelV x u:=by
 cases r with
 |cons r1 r2=>cases r2;exact⟨_,rfl,r1⟩
variable {y:V}
theorem vals2{x:V}(r:Vals [x,y] us):∃u w',us=[u,w']/\RelV x u/\RelV y w':=by
 cases r with
 |cons r1 r2=>
  cases r2 with
  |cons r3 r4=>cases r4;exact⟨_,_,rfl,r1,r3⟩
theorem HR:iK X (.builtin "abs") (λxs H Q=>∃i,xs=[.int i]/\Q (.int (if i<0 then -i else i)) H):=by
 intro pins s σ H xs us Q I r h;obtain⟨i,rfl,q⟩:=h;obtain⟨u,rfl,t,rfl⟩:=vals1 r;exact call_abs_int λu tk=>⟨.int (if i<0 then -i else i),H,I.tok _,⟨_,rfl⟩,q⟩
theorem F1(hc:X.calm=true):iK X (.builtin "min") (λxs H Q=>∃i j,xs=[.int i,.int j]/\Q (.int (if j<i then j else i)) H):=by
 intro pins s σ H xs us Q I r h;obtain⟨i,j,rfl,q⟩:=h;obtain⟨u,w',rfl,⟨t,rfl⟩,⟨t',rfl⟩⟩:=vals2 r;refine min_two_ints (I.ok.hd hc) λh' tk k=>⟨_,H,I.kept k,?_,q⟩;by_cases hj:j<i
 ·rw[if_pos hj,if_pos hj];exact⟨_,rfl⟩
 ·rw[if_neg hj,if_neg hj];exact⟨_,rfl⟩
theorem F3:iK X (.type "int") (λxs H Q=>(∃i,xs=[.int i]/\Q (.int i) H)\/∃k,xs=[.bl k]/\Q (.int (if k then 1 else 0)) H):=by
 intro pins s σ H xs us Q I r h;rcases h with⟨i,rfl,q⟩|⟨k,rfl,q⟩
 ·obtain⟨u,rfl,t,rfl⟩:=vals1 r;exact call_int_int ⟨.int i,H,I,⟨_,rfl⟩,q⟩
 ·obtain⟨u,rfl,r1⟩:=vals1 r;cases r1;exact call_int_bool ⟨.int (if k then 1 else 0),H,I.tok _,⟨_,rfl⟩,q⟩
theorem zW:iK X (.type "str") (λxs H Q=>∃i,xs=[.int i]/\i.natAbs.log2<1920/\Q (.str (toString i)) H):=by
 intro pins s σ H xs us Q I r h;obtain⟨i,rfl,hz,q⟩:=h;obtain⟨u,rfl,t,rfl⟩:=vals1 r;exact PySem.P.str_of_int hz ⟨.str _,H,I.tok _,⟨_,rfl⟩,q⟩
def PJ (K:PySem.W.Frag) (x:V) (H:Hp) (n:Nat):Prop:=
 match x with
 | .str y=>y.length<=sizeLine/\n=y.length
 | .nH y=>y.size<=sizeLine/\n=y.size
 | .ref p=>(∃xs,fF K H p xs/\n=xs.length)\/∃xs,jI K H p xs/\n=xs.length
 |_=>False
theorem HQ:iK X (.builtin "len") (λxs H Q=>∃x n,xs=[x]/\PJ X.K x H n/\Q (.int n) H):=by
 intro pins s σ H xs us Q I r h;obtain⟨x,n,rfl,e,q⟩:=h;obtain⟨u,rfl,rx⟩:=vals1 r;have hl:=qA;have hs:sizeLine=16777216:=sizeLine_eq;cases x with
 |str y=>
  obtain⟨t,rfl⟩:=rx;obtain⟨hy,e'⟩:y.length<=sizeLine/\n=y.length:=e;subst e';exact len_str (by omega) ⟨.int _,H,I.tok _,⟨_,rfl⟩,q⟩
 |nH y=>
  obtain⟨t,rfl⟩:=rx;obtain⟨hy,e'⟩:y.size<=sizeLine/\n=y.size:=e;subst e';exact PySem.W.len_bytes (by omega) ⟨.int _,H,I.tok _,⟨_,rfl⟩,q⟩
 |ref p=>
  cases rx;have e':(∃xs,fF X.K H p xs/\n=xs.length)\/∃xs,jI X.K H p xs/\n=xs.length:=e;rcases e' with⟨xs,hx,e'⟩|⟨xs,hx,e'⟩
  ·subst e';obtain⟨aA,r',pl,hz⟩:=I.list hx;have hlen:=r'.length;exact Calls.call_len_list pl.isList (by simp only[size_toArray];omega) ⟨.int xs.length,H,I.tok _,⟨_,by simp only[size_toArray];rw[hlen]⟩,q⟩
  ·subst e';obtain⟨aA,r',pl,hz⟩:=I.tuple hx;have hlen:=r'.length;exact len_tuple pl (by simp only[size_toArray];omega) ⟨.int xs.length,H,I.tok _,⟨_,by simp only[size_toArray];rw[hlen]⟩,q⟩
 |_=>exact(show False from e).elim
open PySem PySem.Spec PyProof.Rows
theorem qT.some_of{o:Option Value}(r:qT (some v) o):∃u,o=some u/\RelV v u:=by
 cases o with
 |none=>exact(show False from r).elim
 |some u=>exact⟨u,rfl,r⟩
structure iR (K:PySem.W.Frag) (C:Addr):Prop where
 pg:PySem.W.plainGet K C Str.empty=true
 hd:PySem.W.hasDictIn K C=true
 po:PySem.W.plainOver K C=true
 sa:PySem.W.findIn K (.ref C) "__setattr__"=some (some (.builtin "object.__setattr__"))
open PySem PySem.Spec PyProof.Rows
structure cj (k:Nat) (A:Around):Prop where
 hd:A.handled=none
 dp:A.depth+3*k+5<recursionLimit
 un:A.units+16*k+200<cLine
variable {j:Nat}
theorem cj.mono{k:Nat}(r:cj k A)(h:j<=k):cj j A:=⟨r.hd,by have:=r.dp;omega,by have:=r.un;omega⟩
theorem cj.deeper{k:Nat}(r:cj (k+1) A)(env:Env):cj k (A.deeper env):=
 ⟨r.hd,by have:=r.dp;show A.depth+1+3*k+5<_;omega,by have:=r.un;show A.units+3+16*k+200<_;omega⟩
theorem cj.depth{k:Nat}(r:cj k A):A.depth<recursionLimit:=by have:=r.dp;omega
theorem cj.units{k:Nat}(r:cj k A):A.units+64<cLine:=by have:=r.un;omega
noncomputable def BR:TA:=λ_ H Q=>Q [] H
noncomputable def rh (ta:TE) (tr:TA):TA:=λσ H Q=>ta σ H λx H1=>tr σ H1 λxs H2=>Q (x::xs) H2
theorem fU:PA X [] BR:=λ_ _ _ _ H Q I h=>Calls.spliced_nil ⟨[],H,I,.nil,h⟩
variable {t:TA}
theorem bR(ha:PE X e te)(hr:PA X es t)(hs:starEach (e::es) X.env=(false,eval e X.env)::starEach es X.env:=by rfl):PA X (e::es) (rh te t):=by
 intro pos pins s σ H Q I h;rw[hs];show wpAny _ _ (spliced ((false,eval e X.env)::backTo pos (starEach es X.env))) _ _ s;refine Calls.spliced_cons (bP (ha pins s σ H _ I h) λu s1 ⟨x,H1,I1,r1,q1⟩=>?_);exact bP (hr pos pins s1 σ H1 _ I1 q1) λus s2 ⟨xs,H2,I2,r2,q2⟩=>⟨x::xs,H2,I2,.cons r1 r2,q2⟩
noncomputable def U4 (t:TA):TE:=λσ H Q=>t σ H λxs H1=>xs.length<=sizeLine/\∀p,H1 p=none->Q (.ref p) (upd H1 p (.tup xs))
noncomputable def U8 (t:TA):TE:=λσ H Q=>t σ H λxs H1=>xs.length<=sizeLine/\∀p,H1 p=none->Q (.ref p) (upd H1 p (.lst xs))
theorem yM{x1}(h:PA X es t):PE X (.Tuple es x1 pos) (U4 t):=by
 intro pins s σ H Q I hq;refine wpAny_Tuple_spliced (bP (h pos pins s σ H _ I hq) λus s1 ⟨xs,H1,I1,r,z,q⟩=>⟨by rw[<- r.length];exact z,?_⟩);have hf:H1 s1.heap.objs.size=none:=I1.hok.fresh (le_refl _);refine⟨.ref s1.heap.objs.size,upd H1 s1.heap.objs.size (.tup xs),I1.laid (t':=s1.toks) (λb u e=>get?_push_of_some _ e) (le_refl _) ?_,rfl,q _ hf⟩;exact⟨z,us,r,⟨_,get?_push_size _ rfl,rfl,_,rfl⟩⟩
theorem jD(h:PA X es t):PE X (.List es pos) (U8 t):=by
 intro pins s σ H Q I hq;refine wpAny_List_spliced (bP (h pos pins s σ H _ I hq) λus s1 ⟨xs,H1,I1,r,z,q⟩=>⟨by rw[<- r.length];exact z,?_⟩);have hf:H1 s1.heap.objs.size=none:=I1.hok.fresh (le_refl _);refine⟨.ref s1.heap.objs.size,upd H1 s1.heap.objs.size (.lst xs),I1.laid (t':=s1.toks) (λb u e=>get?_push_of_some _ e) (le_refl _) ?_,rfl,q _ hf⟩;exact⟨z,us,0,r,get?_push_size _ rfl⟩
noncomputable abbrev Sp:=List V->Hp->VK->XK->Prop
noncomputable abbrev pT:=List Env->Hp->Shared->XK->Value->Shared->Prop
structure Ad (P:Program) (w:World) (K:PySem.W.Frag) (mg:Str->Option Value) (base:Heap) (A:Around) (outer:List Env) (s:Shared) (H:Hp):Prop where
 frames:A.frames=some outer
 mod:Mod K mg base
 bs:∀b o,base.get? b=some o->s.heap.get? b=some o/\H b=none
 xb:base.objs.size<=s.heap.objs.size
 la:s.heap.FunFrames base outer
 Bo:∀b∈frs outer,H b=none
 hok:gA P w H s.heap
 bare:AllBare s.gens
def CE (outer:List Env) (P:Program) (w:World) (H:Hp) (s:Shared) (Q:VK) (u:Value) (s':Shared):Prop:=
 ∃v H',s'.os=s.os/\AllBare s'.gens/\Un (frs outer) [] H H' s.heap s'.heap/\gA P w H' s'.heap/\RelV v u/\Q v H'
def CR (CX:pT) (outer:List Env) (P:Program) (w:World) (H:Hp) (s:Shared) (Q:VK) (E:XK) (r:Result) (s':Shared):Prop:=
 match r with
 | .ok (.ret u)=>CE outer P w H s Q u s'
 | .ok _=>False
 | .error e=>CX outer H s E e s'
structure gg (P:Program) (w:World) (K:PySem.W.Frag) (mg:Str->Option Value) (base:Heap) (CX:pT) (k:Nat) (f:Addr) (fd:FuncData) (ps:List Str) (sp:Sp):Prop where
 len:∀vs H Q E,sp vs H Q E->vs.length=ps.length
 run:∀(A:Around) (outer:List Env) (s:Shared) (H:Hp) (args:Args) (us:List Value) (vs:List V) (Q:VK) (E:XK),cj k A->Ad P w K mg base A outer s H->BindsTo s fd args (ps.zip us)->Vals vs us->sp vs H Q E->
  codeAny (model P w) A (.call (.ref f) args) (CR CX outer P w H s Q E) s
variable {mg:Str->Option Value} {base:Heap} {CX:pT} {f:Addr} {fd:FuncData} {ps:List Str} {sp:Sp}
theorem gg.mono{K:PySem.W.Frag}{k:Nat}(F:gg P w K mg base CX j f fd ps sp)(h:j<=k):
  gg P w K mg base CX k f fd ps sp:=⟨F.len,λA outer s H args us vs Q E hr=>F.run A outer s H args us vs Q E (hr.mono h)⟩
theorem gg.imp{K:PySem.W.Frag}{k:Nat}{Rq:Sp}(F:gg P w K mg base CX k f fd ps sp)(h:∀vs H Q E,Rq vs H Q E->sp vs H Q E):gg P w K mg base CX k f fd ps Rq:=
 ⟨λvs H Q E q=>F.len vs H Q E (h _ _ _ _ q),λA outer s H args us vs Q E hr he hb hv hs=>F.run A outer s H args us vs Q E hr he hb hv (h _ _ _ _ hs)⟩
variable {s:Shared} in
theorem Inv.OF(I:Inv X pins σ H s):Ad X.prog X.w X.K X.mg X.base X.A X.stack s H:=
 ⟨I.ok.frames,I.ok.mod,I.bs,le_trans I.ok.xb I.sz,I.stack,I.rj,I.hok,I.bare⟩
variable {u:Value}
variable {s:Shared} in
theorem Inv.after(I:Inv X pins σ H s)(h:CE X.stack X.prog X.w H s Q u s'):EP X pins σ Q u s':=by
 obtain⟨v,H',os,bare,un,hok,r,q⟩:=h;obtain⟨hh,g,d,t,N1⟩:=s';obtain rfl:N1=s.os:=os;exact⟨v,H',I.call (h':=hh) (g':=g) (d':=d) (t':=t) (ch:=[]) un hok bare (λb z=>absurd z (by simp)),r,q⟩
noncomputable def ri (sp:Sp) (lT:List V) (E:XK) (t:TA):TE:=λσ H Q=>t σ H λvs H1=>sp (vs++lT) H1 Q E
def Binds (K:PySem.W.Frag) (fd:FuncData) (ps:List Str) (ds:List Value):Prop:=
 ∀(s:Shared) (us:List Value),K.In s.heap->(us++ds).length=ps.length->BindsTo s fd ⟨us,[]⟩ (ps.zip (us++ds))
theorem Binds.all{K:PySem.W.Frag}(h:∀us:List Value,us.length=ps.length->bindArgs fd ⟨us,[]⟩=pure (ps.zip us)):Binds K fd ps []:=λs us _ hl=>by
 rw[append_nil]at hl ⊢;exact .of_eq (h us hl)
def Passes (CX:pT) (X:Cx) (E:XK):Prop:=∀(pins:List (Addr×Obj)) (σ:St) (H:Hp) (s:Shared) (e:Value) (s':Shared),Inv X pins σ H s->CX X.stack H s E e s'->X.xe e s'
variable {ds:List Value} {E:XK} {lT:List V}
variable {k:Nat} in
theorem Dg{s:Shared}{vs:List V}(F:gg X.prog X.w X.K X.mg X.base CX k f fd ps sp)(hr:cj k X.A)(hb:Binds X.K fd ps ds)(hd:Vals lT ds)(hx:Passes CX X E)(I:Inv X pins σ H s)(r:Vals vs us)(h:sp (vs++lT) H Q E):wpAny (model X.prog X.w) X.A (call (.ref f) us) (EP X pins σ Q) X.xe s:=by
 have r2:Vals (vs++lT) (us++ds):=r.append hd;have hl:(us++ds).length=ps.length:=by rw[<- r2.length];exact F.len _ _ _ _ h
 refine wpAny_call (codeAny_mono (F.run X.A X.stack s H ⟨us,[]⟩ (us++ds) (vs++lT) Q E hr I.OF (hb s us I.jE hl) r2 h) λr s' hq=>?_);cases r with
 |error e=>exact hx pins σ H s e s' I hq
 |ok fl=>
  cases fl with
  |ret u=>exact I.after hq
  |next=>exact False.elim hq
  |brk=>exact False.elim hq
  |cont=>exact False.elim hq
variable {p:Pos}
variable {k:Nat} in
theorem mO(F:gg X.prog X.w X.K X.mg X.base CX k f fd ps sp)(hr:cj k X.A)(hg:Gl X x)(hm:X.mg x=some (.ref f))(hk:keepIn X.K (.ref f)=true)(hb:Binds X.K fd ps ds)(hd:Vals lT ds)(hx:Passes CX X E)(ha:PA X (e::es) t)(fO:(x==("__debug__" : Str))=false:=by decide)(he:starEach (e::es) X.env=(false,eval e X.env)::starEach es X.env:=by rfl)(bW:(backTo pos (starEach es X.env)).any (·.1)=false:=by rfl):
  PE X (.Call (.Name x p) (e::es) [] pos) (ri sp lT E t):=by
 intro pins s σ H Q I h;refine wpAny_Call_Name_kw (mQ I hg hm ?_ fO);refine callWith_K (h₀:=X.base) I.ok.mod.zg hk (bP (ha pos pins s σ H _ I h) λus s1 ⟨vs,H1,I1,r,q⟩=>⟨I1.jE,?_⟩) he bW;exact Dg F hr hb hd hx I1 r q
structure eh (N P:List Str) (sc:Scope):Prop where
 kind:sc.kind=.function
 co:sc.isCoroutine=false
 gen:sc.isGenerator=false
 nd:N.Nodup
 pre:N.take P.length=P
 par:∀x∈P,sc.names.lookup x=some .local\/sc.names.lookup x=some .cell
 Nb:∀y∈sc.names,y.2≠.free
theorem xf{kindOf:Str->Option NameKind}{x:Str}:∀{binds:List (Str×Value)} {m:Str->Option Value},(∀v,(x,v)∉binds)->bindL kindOf binds m x=m x
 |[],_,_=>rfl
 |(n,v)::r,m,h=>by
  unfold bindL;rw[xf λw hw=>h w (mem_cons_of_mem _ hw)];split
  ·have:x≠n:=by rintro rfl;exact h v mem_cons_self
   simp[this]
  ·rfl
theorem xh{kindOf:Str->Option NameKind}{x:Str}:∀{binds:List (Str×Value)} {m:Str->Option Value},(∀v,(x,v)∉binds)->bindC kindOf binds m x=m x
 |[],_,_=>rfl
 |(n,v)::r,m,h=>by
  unfold bindC;rw[xh λw hw=>h w (mem_cons_of_mem _ hw)];split
  ·rfl
  ·have:x≠n:=by rintro rfl;exact h v mem_cons_self
   simp[this]
theorem xg{kindOf:Str->Option NameKind}{x:Str}{v:Value}:∀{P:List Str} {vs:List Value} {i:Nat} {m:Str->Option Value},P.Nodup->P[i]?=some x->vs[i]?=some v->kindOf x=some .local->
  bindL kindOf (P.zip vs) m x=some v
 |[],_,_,_,_,h,_,_=>by simp at h
 |_::_,[],_,_,_,_,h,_=>by simp at h
 |p::P,w::vs,0,m,nd,h1,h2,hk=>by
  simp at h1 h2;subst h1;subst h2;show bindL kindOf ((p,w)::P.zip vs) m p=_;unfold bindL;rw[xf λv hv=>(nodup_cons.mp nd).1 (of_mem_zip hv).1,if_pos hk];simp
 |p::P,w::vs,i+1,m,nd,h1,h2,hk=>by
  show bindL kindOf ((p,w)::P.zip vs) m x=_;unfold bindL;exact xg (i:=i) (nodup_cons.mp nd).2 (by simpa using h1) (by simpa using h2) hk
theorem xi{kindOf:Str->Option NameKind}{x:Str}{v:Value}:∀{P:List Str} {vs:List Value} {i:Nat} {m:Str->Option Value},P.Nodup->P[i]?=some x->vs[i]?=some v->kindOf x≠some .local->
  bindC kindOf (P.zip vs) m x=some v
 |[],_,_,_,_,h,_,_=>by simp at h
 |_::_,[],_,_,_,_,h,_=>by simp at h
 |p::P,w::vs,0,m,nd,h1,h2,hk=>by
  simp at h1 h2;subst h1;subst h2;show bindC kindOf ((p,w)::P.zip vs) m p=_;unfold bindC;rw[xh λv hv=>(nodup_cons.mp nd).1 (of_mem_zip hv).1,if_neg hk];simp
 |p::P,w::vs,i+1,m,nd,h1,h2,hk=>by
  show bindC kindOf ((p,w)::P.zip vs) m x=_;unfold bindC;exact xi (i:=i) (nodup_cons.mp nd).2 (by simpa using h1) (by simpa using h2) hk
noncomputable def start (N:List Str) (vs:List V):St:=vs.map some++List.replicate (N.length-vs.length) none
noncomputable def g9 (CX:pT) (P:Program) (w:World) (K:PySem.W.Frag) (mg:Str->Option Value) (base:Heap) (N:List Str) (qual:Str) (scope:Scope) (f:Addr) (cd:Value) (A:Around) (outer:List Env) (s:Shared) (H:Hp) (E:XK):Cx where
 prog:=P
 w:=w
 K:=K
 mg:=mg
 base:=base
 A:=A.deeper (envOfC qual scope s.heap.objs.size f cd)
 N:=N
 aC:=s
 aq:=H
 env:=envOfC qual scope s.heap.objs.size f cd
 outer:=outer
 stack:=envOfC qual scope s.heap.objs.size f cd::outer
 ex:=[]
 calm:=true
 fn:=λ_=>true
 pn:=[]
 xe:=λe s'=>wpAny (model P w) (A.deeper (envOfC qual scope s.heap.objs.size f cd)) (leaving (envOfC qual scope s.heap.objs.size f cd) e) (λ_ jB=>CX outer H s E e jB) (λe' jB=>CX outer H s E e' jB) s'
variable {n:Nat}
theorem zV{sc:Scope}(h:sc.names.lookup x=some .cell):∃c,(cellsFrom n sc.names []).lookup x=some c:=by
 have q:=cellsFrom_some sc.names n [] (.inl h);exact isSome_iff_exists.mp q
variable {qual:Str} {scope:Scope} {outer:List Env}
theorem wJ{K:PySem.W.Frag}{cd:Value}{s s1:Shared}{vs:List V}(S:eh N ps scope)(hd:A.handled=none)(e0:Ad P w K mg base A outer s H)(hl:vs.length=ps.length)(r:Vals vs us)(x:InCallC s s.heap.objs.size (bindL (envOfC qual scope s.heap.objs.size f cd).kindOf (ps.zip us) λ_=>none) (cellsFrom (s.heap.objs.size+1) scope.names []) (bindC (envOfC qual scope s.heap.objs.size f cd).kindOf (ps.zip us) λ_=>none) s1):
  Inv (g9 CX P w K mg base N qual scope f cd A outer s H E) [] (start N vs) H s1:=by
 have bW:ps.length<=N.length:=by have:=congrArg List.length S.pre;rw[length_take]at this;omega
 obtain⟨h1,tk,rfl,hk⟩:=x.done;have DX:∀b:Addr,b∉(g9 CX P w K mg base N qual scope f cd A outer s H E).ex:=λb z=>absurd (show b∈([]:List Addr)from z) (by simp);refine⟨⟨e0.mod,S.kind,rfl,rfl,le_refl _,λy z c h1 h2=>?_,λy hy=>?_,λy c _ h=>?_,λ_=>hd,Around.frames_deeper e0.frames,.inr ⟨rfl,rfl⟩,λb z=>absurd z (DX b),e0.bs,e0.xb,λb _ _=>DX b,λb z=>absurd z (DX b),e0.la,e0.Bo⟩,
  rfl,e0.bare,Un.kept hk,⟨_,x.toInCall.ns,λi y v h1 h2 h3=>?_⟩,λy c h=>⟨_,x.cell y c h⟩,e0.hok.fresh (le_refl _),λy c h=>?_,λp hp=>absurd (show p∈([]:List (Addr×Obj))from hp) (by simp),e0.hok.kept hk,?_⟩
 ·exact name_of_addr x.apart (PySem.mem_of_lookup h1) (PySem.mem_of_lookup h2)
 ·have hy:scope.names.lookup y=some .cell\/scope.names.lookup y=some .free:=hy;rcases hy with hy|hy
  ·exact zV hy
  ·exact absurd rfl (S.Nb _ (PySem.mem_of_lookup hy))
 ·exact le_of_lt (x.above y c (PySem.mem_of_lookup h))
 ·have hi:i<vs.length:=by
   unfold start at h2;by_cases hi:i<vs.length
   ·exact hi
   ·rw[getElem?_append_right (by simpa using hi)]at h2;rw[List.getElem?_replicate]at h2;split at h2<;>cases h2
  have ha:vs[i]?=some v:=by
   unfold start at h2;rw[getElem?_append_left (by simpa using hi),getElem?_map]at h2;cases e:vs[i]? with
   |none=>rw[e]at h2;cases h2
   |some a=>rw[e]at h2;cases h2;rfl
  obtain⟨u,hu,rv⟩:=r.get ha;have hp:ps[i]?=some y:=by
   rw[<- S.pre,List.getElem?_take_of_lt (by omega)];exact h1
  have RJ:ps.Nodup:=by rw[<- S.pre];exact S.nd.sublist (List.take_sublist _ _)
  refine⟨u,rv,?_⟩;rcases S.par y (List.mem_of_getElem? hp)with k|k
  ·exact .inl ⟨k,xg RJ hp hu k⟩
  ·obtain⟨c,e⟩:=zV (n:=s.heap.objs.size+1) k;refine .inr ⟨.inl k,c,e,?_⟩;have q:=x.cell y c e;rw[xi RJ hp hu (by show scope.names.lookup y≠_;rw[k];decide)]at q;exact q
 ·exact e0.hok.fresh (le_of_lt (x.above y c (PySem.mem_of_lookup h)))
 ·unfold start;show _=N.length;rw[length_append,length_map,List.length_replicate];omega
variable {name:Str} {doc pm bJ ct oc:Value} {an od:Option Addr} {nR:Array (Option Value)}
theorem Jq{K:PySem.W.Frag}{k:Nat}{params:Arguments}{dV kV:Value}(lk:K.lookup f=some ⟨oc,od,.func (fnOf name qual params body scope dV kV doc pm an bJ ct),nR⟩)(gy:codeIn K bJ qual=true)(S:eh N ps scope)(len:∀vs H Q E,sp vs H Q E->vs.length=ps.length)(hbody:∀(A:Around) (outer:List Env) (s:Shared) (H:Hp) (vs:List V) (Q:VK) (E:XK),cj k (A.deeper (envOfC qual scope s.heap.objs.size f bJ))->sp vs H Q E->
   ∃t,iu (g9 CX P w K mg base N qual scope f bJ A outer s H E) body t/\t {nx:=λ_ H'=>Q .bU H',rt:=Q} (start N vs) H):
  gg P w K mg base CX (k+1) f (fnOf name qual params body scope dV kV doc pm an bJ ct) ps sp:=by
 refine⟨len,λA outer s H args us vs Q E hr e0 hb r i7=>?_⟩;have hl:=len _ _ _ _ i7;have KX:K.In s.heap:=e0.mod.zg.keeps λb o e=>(e0.bs b o e).1;have lim:s.heap.NoLimit:=e0.mod.nolimit.keeps λb o e=>(e0.bs b o e).1;have Cd:∀y∈ps.zip us,scope.names.lookup y.1=some .local\/(scope.names.lookup y.1=some .cell/\((cellsFrom (s.heap.objs.size+1) scope.names []).lookup y.1).isSome=true):=fun⟨n,v⟩ hy=>by
  rcases S.par n (of_mem_zip hy).1 with q|q
  ·exact .inl q
  ·exact .inr ⟨q,cellsFrom_some _ _ _ (.inl q)⟩
 refine codeAny_call_function hr.depth (KX _ _ lk) rfl S.co S.gen rfl (codeRec_of KX gy) (hb _ _ _ _ ?_);refine wpAny_newFunctionEnv_cells S.kind Cd λenv he s1 x=>?_;subst he;refine⟨lim.keeps x.toInCall.keep,codeAny_func ?_⟩;obtain⟨t,ht,hq⟩:=hbody A outer s H vs Q E (hr.deeper _) i7;have I:Inv (g9 CX P w K mg base N qual scope f bJ A outer s H E) [] (start N vs) H s1:=wJ S hr.hd e0 hl r x;refine wpAny_mono (ht [] s1 (start N vs) H _ I hq) (λfl s' hs=>?_) λe s' hs=>hs;have fin:∀{bD:St} {H':Hp} {v:V} {u:Value},Inv (g9 CX P w K mg base N qual scope f bJ A outer s H E) [] bD H' s'->RelV v u->Q v H'->CE outer P w H s Q u s':=
  fun{bD H' v u} J rv q=>⟨v,H',J.os,J.bare,J.base,J.hok,rv,q⟩
 cases fl with
 |ret u=>
  obtain⟨v,bD,H',J,rv,q⟩:=hs;exact fin J rv q
 |next=>
  obtain⟨bD,H',J,q⟩:=hs;exact fin (v:=V.bU) (u:=Value.none) J rfl q
 |brk=>
  obtain⟨_,_,_,q⟩:=hs;exact False.elim q
 |cont=>
  obtain⟨_,_,_,q⟩:=hs;exact False.elim q
open PySem PySem.Spec PyProof.Rows
variable {r:List V->Hp->VK->Prop} in
noncomputable def Ik (r:List V->Hp->VK->Prop) (t:TA):TE:=λσ H Q=>t σ H λvs H1=>r vs H1 Q
variable {id:String}
variable {r:List V->Hp->VK->Prop} in
theorem pk(hc:iK X (.builtin id) r)(hg:Gl X x)(hm:X.mg x=none)(hv:bootBuiltins x=some (.builtin id))(ha:PA X (e::es) t)(hn:x≠"__name__":=by decide)(fO:(x==("__debug__" : Str))=false:=by decide)(he:starEach (e::es) X.env=(false,eval e X.env)::starEach es X.env:=by rfl)(bW:(backTo pos (starEach es X.env)).any (·.1)=false:=by rfl):PE X (.Call (.Name x p) (e::es) [] pos) (Ik r t):=by
 intro pins s σ H Q I h;refine wpAny_Call_Name_kw (qC I hg hm hv ?_ hn fO);exact PyProof.Rows.callWith_builtin1 (bP (ha pos pins s σ H _ I h) λus s1 ⟨vs,H1,I1,r1,q1⟩=>hc pins s1 σ H1 vs us Q I1 r1 q1) he bW
variable {T:String}
variable {r:List V->Hp->VK->Prop} in
theorem wy(hc:iK X (.type T) r)(hg:Gl X x)(hm:X.mg x=none)(hv:bootBuiltins x=some (.type T))(ha:PA X (e::es) t)(hn:x≠"__name__":=by decide)(fO:(x==("__debug__" : Str))=false:=by decide)(he:starEach (e::es) X.env=(false,eval e X.env)::starEach es X.env:=by rfl)(bW:(backTo pos (starEach es X.env)).any (·.1)=false:=by rfl):PE X (.Call (.Name x p) (e::es) [] pos) (Ik r t):=by
 intro pins s σ H Q I h;refine wpAny_Call_Name_kw (qC I hg hm hv ?_ hn fO);exact PyProof.Rows.callWith_type1 (bP (ha pos pins s σ H _ I h) λus s1 ⟨vs,H1,I1,r1,q1⟩=>hc pins s1 σ H1 vs us Q I1 r1 q1) he bW
end
end L2
namespace HT
noncomputable section
open PySem PyProof.Rows
noncomputable def cG (n d:Nat):Option Int->Nat
 |none=>d
 |some v=>if v<0 then(v+(n:Int)).toNat else min v.toNat n
theorem oU(n d:Nat):cG n d none=d:=rfl
theorem rk(n d k:Nat):cG n d (some (k:Int))=min k n:=by
 show(if(k:Int)<0 then((k:Int)+(n:Int)).toNat else min (k:Int).toNat n)=min k n;rw[if_neg (by omega),toNat_natCast]
theorem Mu(n d:Nat)(hd:d<=n)(o:Option Int):cG n d o<=n:=by
 cases o with
 |none=>exact hd
 |some v=>
  show(if v<0 then(v+(n:Int)).toNat else min v.toNat n)<=n;by_cases hv:v<0
  ·rw[if_pos hv];omega
  ·rw[if_neg hv];exact Nat.min_le_right _ _
theorem BD(v:Int)(n d:Nat):(if v<0 then max (v+(n:Int)) 0 else min v (n:Int))=((cG n d (some v):Nat):Int):=by
 show(if v<0 then max (v+(n:Int)) 0 else min v (n:Int))=(((if v<0 then(v+(n:Int)).toNat else min v.toNat n):Nat):Int);by_cases hv:v<0
 ·simp only[if_pos hv];omega
 ·simp only[if_neg hv];omega
theorem Cu(lo hi:Option Int)(n:Nat):Builtin.Slice.sliceAdjust lo hi 1 (n:Int)=(((cG n 0 lo:Nat):Int),((cG n n hi:Nat):Int)):=by
 have h1:¬((1:Int)<0):=by omega
 unfold Builtin.Slice.sliceAdjust;simp only[h1,if_false];refine Prod.ext ?_ ?_
 ·cases lo with
  |none=>rfl
  |some v=>exact BD v n 0
 ·cases hi with
  |none=>rfl
  |some v=>exact BD v n n
theorem C2(i j:Nat):Builtin.Slice.slicePlaces (i:Int) (j:Int) 1=j-i:=by
 unfold Builtin.Slice.slicePlaces;have h1:(1:Int)>0:=by omega
 simp only[h1,if_true,ediv_one];split<;>omega
variable {w:World} {E:Value->Shared->Prop} {A:Around} {prog:Program} {v:Value}
variable {s:Shared} in
theorem tT{o:Option Int}{Q:Option Int->Shared->Prop}(p:IsPart v o)(h:Q o s):wpAny (model prog w) A (Builtin.Slice.slicePartIndex v) Q E s:=by
 cases p with
 |none=>exact slicePart_none h
 |int i t=>exact slicePart_int h
variable {n:Nat}
variable {s:Shared} in
theorem sP{sl:Addr}{vl vu:Value}{lo hi:Option Int}{Q:Int×Int×Nat->Shared->Prop}(hs:s.heap.IsSliceOf sl vl vu .none)(pl:IsPart vl lo)(pu:IsPart vu hi)(h:Q (((cG n 0 lo:Nat):Int),1,cG n n hi-cG n 0 lo) s):wpAny (model prog w) A (Builtin.Slice.sliceApplied (.ref sl) (pure (n:Int))) Q E s:=by
 obtain⟨os,Em,S3,Jf⟩:=id hs;unfold Builtin.Slice.sliceApplied Builtin.Slice.sliceFields;refine wpAny_bind (wpAny_bind (wpAny_field Em Jf (x:=vl) rfl (wpAny_bind (wpAny_field Em Jf (x:=vu) rfl (wpAny_bind (wpAny_field Em Jf (x:=.none) rfl (wpAny_pure ?_)))))));refine wpAny_bind (slicePart_none ?_);show wpAny _ _ (if((1:Int)==0)=true then _ else _) _ _ s;rw[if_neg (by decide)];refine wpAny_bind (tT pl (wpAny_bind (tT pu (wpAny_bind (wpAny_pure ?_)))));show wpAny _ _ (match Builtin.Slice.sliceAdjust lo hi 1 (n:Int)with|(lo,hi)=>pure (lo,(1:Int),Builtin.Slice.slicePlaces lo hi 1)) _ _ s
 rw[Cu lo hi n];show wpAny _ _ (pure (((cG n 0 lo:Nat):Int),(1:Int),Builtin.Slice.slicePlaces ((cG n 0 lo:Nat):Int) ((cG n n hi:Nat):Int) 1)) _ _ s;rw[C2];exact wpAny_pure h
theorem GN(xs:Array Value)(i k:Nat):((List.range k).filterMap fun(m:Nat)=>xs[((i:Int)+(m:Int)*1).toNat]?).toArray=((xs.toList.drop i).take k).toArray:=by
 have e:(fun(m:Nat)=>xs[((i:Int)+(m:Int)*1).toNat]?)=λm=>xs[i+m]?:=by
  funext m
  have:((i:Int)+(m:Int)*1).toNat=i+m:=by omega
  rw[this]
 rw[e];have:=pick_run xs i k;rw[List.filterMap_map]at this;have e2:((λx=>xs[x]?) ∘ λx=>i+x)=λm=>xs[i+m]?:=rfl;rw[e2]at this;rw[this]
variable {s:Shared} in
theorem rS{t sl:Addr}{items:Array Value}{vl vu:Value}{lo hi:Option Int}{Q:Value->Shared->Prop}(ht:IsTup s.heap t items)(hs:s.heap.IsSliceOf sl vl vu .none)(pl:IsPart vl lo)(pu:IsPart vu hi)(hw:¬(cG items.size 0 lo=0/\cG items.size items.size hi=items.size))(h:Q (.ref s.heap.objs.size) {s with heap:=s.heap.push {cls:=.type "tuple",data:=.seq ((items.toList.drop (cG items.size 0 lo)).take (cG items.size items.size hi-cG items.size 0 lo)).toArray}})(hsz:items.size<=sizeLine):wpAny (model prog w) A (getItem (.ref t) (.ref sl)) Q E s:=by
 have xM:sizeOk (.seq ((items.toList.drop (cG items.size 0 lo)).take (cG items.size items.size hi-cG items.size 0 lo)).toArray):=by
  show((items.toList.drop (cG items.size 0 lo)).take (cG items.size items.size hi-cG items.size 0 lo)).toArray.size<=sizeLine;rw[size_toArray,length_take,length_drop,length_toList];omega
 have hj:cG items.size items.size hi<=items.size:=Mu _ _ (le_refl _) hi;obtain⟨os,Em,S3,Jf⟩:=id hs;have WT:s.TypeIs (.ref sl) "slice":=⟨os,Em,S3⟩;unfold getItem;try with_reducible refine wpAny_holding ?_
 first|refine wpAny_bind (wpAny_pure ?_)|skip
 refine wpAny_bind (wpAny_sequenceKey ht.typeIs (by decide) ?_);refine wpAny_bind (wpAny_callSpecial?_slot (name:=Str.ofString "__getitem__") ht.typeIs PyProof.Rows.slot_tuple_getitem
  (wpAny_call_entry PyProof.Rows.slot_tuple_getitem ht.typeIs entry_tuple_getitem ?_ (args_tuple_getitem _ _)))
 show wpAny _ _ (Builtin.Tuple.tupleItemsOf (.ref t) >>= _) _ _ s;refine wpAny_bind (tupleItemsOf_ ht ?_);refine wpAny_bind (wpAny_typeOf WT ?_);rw[if_pos (by decide)];refine wpAny_bind (sP hs pl pu ?_);have zt:¬((((cG items.size 0 lo:Nat):Int)==0&&(1:Int)==1&&(cG items.size items.size hi-cG items.size 0 lo)==items.size)=true):=by
  intro q;rw[and_eq_true,and_eq_true]at q;have q1:((cG items.size 0 lo:Nat):Int)=0:=eq_of_beq q.1.1;have q2:cG items.size items.size hi-cG items.size 0 lo=items.size:=eq_of_beq q.2;exact hw ⟨by omega,by omega⟩
 show wpAny _ _ (if(((cG items.size 0 lo:Nat):Int)==0&&(1:Int)==1&&(cG items.size items.size hi-cG items.size 0 lo)==items.size)=true then _ else _) _ _ s;rw[if_neg zt,GN];first
  |exact wpAny_bind (m:=Builtin.Tuple.tupleExact _) (wpAny_newObj_type (wpAny_pure ⟨_,rfl,wpAny_pure h⟩) xM)
  |exact wpAny_bind (m:=Builtin.Tuple.tupleExact _) (wpAny_newObj_type (wpAny_bind (wpAny_pure (wpAny_pure ⟨_,rfl,wpAny_pure h⟩))) xM)
  |exact wpAny_bind (wpAny_bind (m:=Builtin.Tuple.tupleExact _) (wpAny_newObj_type (wpAny_pure (wpAny_pure ⟨_,rfl,wpAny_pure h⟩)) xM))
  |exact wpAny_bind (wpAny_bind (m:=Builtin.Tuple.tupleExact _) (wpAny_newObj_type (wpAny_pure ⟨_,rfl,wpAny_pure h⟩) xM))
end
end HT
namespace L2
noncomputable section
open PySem PySem.Spec PyProof.Rows
noncomputable abbrev TO:=St->Hp->(Option Int->Hp->Prop)->Prop
def PO (X:Cx) (e:Option Expr) (t:TO):Prop:=
 ∀(pins:List (Addr×Obj)) (s:Shared) (σ:St) (H:Hp) (Q:Option Int->Hp->Prop),Inv X pins σ H s->t σ H Q->
  wpAny (model X.prog X.w) X.A (evalPart e X.env) (λu s'=>∃o H',Inv X pins σ H' s'/\IsPart u o/\Q o H') X.xe s
noncomputable def JX:TO:=λ_ H Q=>Q none H
noncomputable def Qe (t:TE):TO:=λσ H Q=>t σ H λx H1=>∃i,x=.int i/\Q (some i) H1
variable {X:Cx}
theorem Kw:PO X none JX:=by
 intro pins s σ H Q I h;rw[evalPart_none];exact wpAny_pure ⟨none,H,I,.none,h⟩
variable {te:TE} {e:Expr}
theorem Kv(h:PE X e te):PO X (some e) (Qe te):=by
 intro pins s σ H Q I hw;rw[evalPart_some];refine bP (h pins s σ H _ I hw) λu s1 ⟨x,H1,I1,r1,q1⟩=>?_;obtain⟨i,rfl,q⟩:=q1;obtain⟨t,rfl⟩:=r1;exact⟨some i,H1,I1,.int i t,q⟩
variable {hi lo:Option Expr}
def xm (X:Cx) (r:V->Option Int->Option Int->Hp->VK->Prop):Prop:=
 ∀(pins:List (Addr×Obj)) (s:Shared) (σ:St) (H:Hp) (x:V) (v vl vu:Value) (lo hi:Option Int) (sl:Addr) (Q:VK),Inv X pins σ H s->RelV x v->s.heap.IsSliceOf sl vl vu .none->IsPart vl lo->IsPart vu hi->r x lo hi H Q->
  ∃T id,typeLookup (.type T) "__getitem__"=pure (some (.builtin id))/\s.TypeIs v T/\wpAny (model X.prog X.w) X.A (getItem v (.ref sl)) (EP X pins σ Q) X.xe s
theorem xm.or{r r':V->Option Int->Option Int->Hp->VK->Prop}(h:xm X r)(h':xm X r'):xm X (λx lo hi H Q=>r x lo hi H Q\/r' x lo hi H Q):=by
 intro pins s σ H x v vl vu lo hi sl Q I rx hs pl pu q;rcases q with q|q
 ·exact h pins s σ H x v vl vu lo hi sl Q I rx hs pl pu q
 ·exact h' pins s σ H x v vl vu lo hi sl Q I rx hs pl pu q
variable {th:TO}
variable {tl:TO} in
noncomputable def Vq (r:V->Option Int->Option Int->Hp->VK->Prop) (te:TE) (tl th:TO):TE:=λσ H Q=>te σ H λx H1=>tl σ H1 λl H2=>th σ H2 λu H3=>r x l u H3 Q
variable {p2 pos:Pos}
variable {tl:TO} in
theorem yN{r:V->Option Int->Option Int->Hp->VK->Prop}(hr:xm X r)(he:PE X e te)(hl:PO X lo tl)(hu:PO X hi th):PE X (.Subscript e (.Slice lo hi none p2) pos) (Vq r te tl th):=by
 intro pins s σ H Q I h;refine Subscript_ (bP (he pins s σ H _ I h) λv s1 ⟨x,H1,I1,r1,q1⟩=>?_);refine wpAny_Slice (bP (hl pins s1 σ H1 _ I1 q1) λvl s2 ⟨l,H2,I2,pl,q2⟩=>bP (hu pins s2 σ H2 _ I2 q2) λvu s3 ⟨u,H3,I3,pu,q3⟩=>?_);rw[evalPart_none];refine wpAny_pure ?_;have I4:Inv X pins σ H3 {s3 with heap:=s3.heap.push {cls:=.type "slice",data:=.fields #[vl,vu,.none]}}:=I3.kept (t':=s3.toks) λb ob q=>get?_push_of_some _ q;obtain⟨T,id,hT,ht,hg⟩:=hr pins {s3 with heap:=s3.heap.push {cls:=.type "slice",data:=.fields #[vl,vu,.none]}} σ H3 x v vl vu l u s3.heap.objs.size Q I4 r1 (Heap.IsSliceOf.new ..) pl pu q3;show wpAny (model X.prog X.w) X.A (subscriptTail e (.Slice lo hi none p2) v (.ref s3.heap.objs.size)) (EP X pins σ Q) X.xe {s3 with heap:=s3.heap.push {cls:=.type "slice",data:=.fields #[vl,vu,.none]}};exact tail_any (ops:=[.ref s3.heap.objs.size,v]) ht hT hg (by with_unfolding_all rfl)
noncomputable def qJ (xs:List V) (lo hi:Option Int):List V:=(xs.drop (HT.cG xs.length 0 lo)).take (HT.cG xs.length xs.length hi-HT.cG xs.length 0 lo)
theorem sk(xs:List V)(lo hi:Option Int):(qJ xs lo hi).length<=xs.length:=by
 unfold qJ;rw[length_take,length_drop];omega
noncomputable def Ue (K:PySem.W.Frag):V->Option Int->Option Int->Hp->VK->Prop:=λx lo hi H Q=>∃a xs,x=.ref a/\jI K H a xs/\
 ¬(HT.cG xs.length 0 lo=0/\HT.cG xs.length xs.length hi=xs.length)/\∀p,H p=none->Q (.ref p) (upd H p (.tup (qJ xs lo hi)))
theorem Ml:xm X (Ue X.K):=by
 intro pins s σ H x v vl vu lo hi sl Q I rx hs pl pu h;obtain⟨a,xs,rfl,hx,hw,q⟩:=h;cases rx;obtain⟨aA,r,ht,hz⟩:=I.tuple hx;have hlen:aA.toArray.size=xs.length:=by rw[size_toArray];exact r.length.symm
 refine⟨"tuple",_,PyProof.Rows.slot_tuple_getitem.lookup,ht.typeIs,?_⟩;refine HT.rS ht hs pl pu (by rw[hlen];exact hw) ?_ (by rw[hlen];exact hz);rw[hlen];refine⟨.ref s.heap.objs.size,_,I.laid (t':=s.toks) (o:=.tup (qJ xs lo hi)) (λb ob q=>get?_push_of_some _ q) (le_refl _) ?_,rfl,q _ (I.hok.fresh (le_refl _))⟩;exact⟨le_trans (sk xs lo hi) hz,_,(r.drop (HT.cG xs.length 0 lo)).take (HT.cG xs.length xs.length hi-HT.cG xs.length 0 lo),IsTup.new _ _⟩
variable {xs:List V}
theorem Vals.rK{us:List Value}(r:Vals xs us):us=[]↔xs=[]:=by
 cases r with
 |nil=>simp
 |cons _ _=>simp
open PySem PySem.Spec PyProof.Rows
noncomputable def sd (n:Nat) (i:Int):Option Nat:=if 0<=i then(if i<n then some i.toNat else none)else if -(n:Int)<=i then some (i+n).toNat else none
noncomputable def iZ {α:Type} (xs:List α) (i:Int):Option α:=(sd xs.length i).bind λj=>xs[j]?
variable {n j:Nat}
theorem L5{i:Int}(h:sd n i=some j):seqIndex? i n=some j/\j<n/\-(n:Int)<=i/\i<n:=by
 unfold sd at h;by_cases h0:0<=i
 ·rw[if_pos h0]at h;by_cases h1:i<n
  ·rw[if_pos h1]at h;have e:i.toNat=j:=Option.some.inj h;exact⟨by rw[seqIndex_of h0 h1,e],by omega,by omega,h1⟩
  ·rw[if_neg h1]at h;cases h
 ·rw[if_neg h0]at h;by_cases h1: -(n:Int)<=i
  ·rw[if_pos h1]at h;have e:(i+n).toNat=j:=Option.some.inj h;exact⟨by rw[seqIndex_neg (by omega) h1,e],by omega,h1,by omega⟩
  ·rw[if_neg h1]at h;cases h
variable {α:Type}
theorem BG{xs:List α}{i:Int}{v:α}(h:iZ xs i=some v):∃j,seqIndex? i xs.length=some j/\xs[j]?=some v/\j<xs.length/\-(xs.length:Int)<=i/\i<xs.length:=by
 unfold iZ at h;cases e:sd xs.length i with
 |none=>rw[e]at h;cases h
 |some j=>
  rw[e]at h;obtain⟨h1,h2,h3,h4⟩:=L5 e;exact⟨j,h1,h,h2,h3,h4⟩
def BL (b:Expr):Prop:=∀o i,subscripted b false o i=operate [o,i] (getItem o i)
def Ac (X:Cx) (r:R2):Prop:=
 ∀(value slice:Expr) (pins:List (Addr×Obj)) (s:Shared) (σ:St) (H:Hp) (x y:V) (v u:Value) (Q:VK),Inv X pins σ H s->RelV x v->RelV y u->r x y H Q->
  subscripted slice false v u=operate [v,u] (getItem v u)->wpAny (model X.prog X.w) X.A (subscriptTail value slice v u) (EP X pins σ Q) X.xe s
def v9 (X:Cx) (id:String) (r:V->List V->Hp->VK->Prop):Prop:=
 ∀(pins:List (Addr×Obj)) (s:Shared) (σ:St) (H:Hp) (x:V) (xs:List V) (v:Value) (us:List Value) (Q:VK),Inv X pins σ H s->RelV x v->Vals xs us->r x xs H Q->
  wpAny (model X.prog X.w) X.A (call (.builtin id) (v::us)) (EP X pins σ Q) X.xe s
variable {r':R2}
theorem Ac.or{r:R2}(h:Ac X r)(h':Ac X r'):Ac X (λx y H Q=>r x y H Q\/r' x y H Q):=by
 intro value slice pins s σ H x y v u Q I rx ry q hs;rcases q with q|q
 ·exact h value slice pins s σ H x y v u Q I rx ry q hs
 ·exact h' value slice pins s σ H x y v u Q I rx ry q hs
variable {b a:Expr} {ta tb:TE}
theorem Qs{r:R2}(hr:Ac X r)(ha:PE X a ta)(hb:PE X b tb)(hs:BL b):PE X (.Subscript a b pos) (yc r ta tb):=by
 intro pins s σ H Q I h;exact Subscript_ (Ct ha hb I h λv u s2 x y H2 I2 rx ry q=>hr a b pins s2 σ H2 x y v u Q I2 rx ry q (hs _ _))
noncomputable def Uj (K:PySem.W.Frag):R2:=λx y H Q=>∃p xs i v,x=.ref p/\y=.int i/\fF K H p xs/\iZ xs i=some v/\Q v H
noncomputable def Ui (K:PySem.W.Frag):R2:=λx y H Q=>∃p xs i v,x=.ref p/\y=.int i/\jI K H p xs/\iZ xs i=some v/\Q v H
theorem fo:Ac X (Uj X.K):=by
 intro value slice pins s σ H x y v u Q I rx ry h hs;obtain⟨p,xs,i,z,rfl,rfl,hq,he,q⟩:=h;cases rx;obtain⟨t,rfl⟩:=ry;obtain⟨aA,r,pl,hz⟩:=I.list hq;obtain⟨j,h1,h2,h3,h4,h5⟩:=BG he;obtain⟨w,ew,ko⟩:=r.get h2;have hl:=r.length;have hn:=qA;have fin:EP X pins σ Q w s:=⟨z,H,I,ko,q⟩;by_cases h0:0<=i
 ·have hj:i.toNat=j:=by
   rw[seqIndex_of h0 h5]at h1;exact Option.some.inj h1
  exact item_listR pl.isList h0 (by omega) (by rw[hj];simpa using ew) fin hs
 ·have hj:(i+(aA.toArray.size:Int)).toNat=j:=by
   rw[seqIndex_neg (by omega) h4]at h1;rw[size_toArray,<- hl];exact Option.some.inj h1
  exact subscriptTail_builtinR (x:=w) pl.isList.typeIs slot_list_getitem.lookup
   (wpAny_getItem_list_neg (Q:=λr s'=>r=w/\EP X pins σ Q r s') pl.isList (by omega) (by rw[size_toArray]<;>omega) (by omega) (by rw[hj];simpa using ew) ⟨rfl,fin⟩) hs
theorem NC:Ac X (Ui X.K):=by
 intro value slice pins s σ H x y v u Q I rx ry h hs;obtain⟨p,xs,i,z,rfl,rfl,hq,he,q⟩:=h;cases rx;obtain⟨t,rfl⟩:=ry;obtain⟨aA,r,pl,hz⟩:=I.tuple hq;obtain⟨j,h1,h2,h3,h4,h5⟩:=BG he;obtain⟨w,ew,ko⟩:=r.get h2;have hl:=r.length;have hn:=qA;have fin:EP X pins σ Q w s:=⟨z,H,I,ko,q⟩;exact subscriptTail_builtinR (x:=w) pl.typeIs slot_tuple_getitem.lookup
  (getItem_tuple (j:=j) (Q:=λr s'=>r=w/\EP X pins σ Q r s') pl (by omega) (by omega) (by rw[size_toArray,<- hl];exact h1) (by simpa using ew) ⟨rfl,fin⟩) hs
theorem ym(lo hi:Option Int)(n:Nat):(sliceBounds lo hi none n).1=((HT.cG n 0 lo:Nat):Int)/\(sliceBounds lo hi none n).2.1=((HT.cG n n hi:Nat):Int)/\(sliceBounds lo hi none n).2.2=1:=by
 refine⟨?_,?_,rfl⟩
 ·cases lo with
  |none=>simp[sliceBounds,HT.cG]
  |some i=>
   simp only[sliceBounds,HT.cG,Option.getD_none,show(1:Int)>0 by decide,if_true];by_cases h:i<0
   ·simp only[h,if_true]<;>omega
   ·simp only[h,if_false]<;>omega
 ·cases hi with
  |none=>simp[sliceBounds,HT.cG]
  |some i=>
   simp only[sliceBounds,HT.cG,Option.getD_none,show(1:Int)>0 by decide,if_true];by_cases h:i<0
   ·simp only[h,if_true]<;>omega
   ·simp only[h,if_false]<;>omega
theorem xq(aA:List Value)(lo hi:Option Int):slicePick aA.toArray lo hi none=((aA.drop (HT.cG aA.length 0 lo)).take (HT.cG aA.length aA.length hi-HT.cG aA.length 0 lo)).toArray:=by
 obtain⟨h1,h2,h3⟩:=ym lo hi aA.toArray.size;unfold slicePick;rw[h1,h2,h3];simp only[sliceRange_one,pick_run,size_toArray]<;>rfl
noncomputable def Uh (K:PySem.W.Frag):V->Option Int->Option Int->Hp->VK->Prop:=λx lo hi H Q=>∃a xs,x=.ref a/\fF K H a xs/\∀p,H p=none->Q (.ref p) (upd H p (.lst (qJ xs lo hi)))
theorem Kb:xm X (Uh X.K):=by
 intro pins s σ H x v vl vu lo hi sl Q I rx hs pl pu h;obtain⟨a,xs,rfl,hx,q⟩:=h;cases rx;obtain⟨aA,r,ht,hz⟩:=I.list hx;have hlen:=r.length;refine⟨"list",_,slot_list_getitem.lookup,ht.isList.typeIs,?_⟩;refine wpAny_getItem_list_slice ht.isList hs pl pu .none (by simp) ?_ (by rw[size_toArray]<;>omega);rw[xq,<- hlen];refine⟨.ref s.heap.objs.size,_,I.laid (t':=s.toks) (o:=.lst (qJ xs lo hi)) (λb ob q=>get?_push_of_some _ q) (le_refl _) ?_,rfl,q _ (I.hok.fresh (le_refl _))⟩;exact⟨le_trans (sk xs lo hi) hz,_,0,(r.drop (HT.cG xs.length 0 lo)).take (HT.cG xs.length xs.length hi-HT.cG xs.length 0 lo),get?_push_size _ rfl⟩
noncomputable def gY:V->Bool
 | .bU=>true
 | .bl _=>true
 | .int _=>true
 | .str _=>true
 |_=>false
noncomputable def lR:V->V->Bool
 | .bU,.bU=>true
 | .bl a,.bl b=>a==b
 | .bl a,.int b=>(if a then 1 else 0)==b
 | .int a,.bl b=>a==(if b then 1 else 0)
 | .int a,.int b=>a==b
 | .str a,.str b=>a==b
 |_,_=>false
variable {A:Around} {x:V}
theorem OC{s:Shared}{y:V}{u v:Value}(ry:RelV y u)(rx:RelV x v)(fy:gY y=true)(fx:gY x=true):SeqAt.EqAt A s u v (lR y x):=by
 cases y with
 |bU=>
  cases ry;cases x with
  |bU=>cases rx;exact SeqAt.EqAt.same _
  |bl b=>cases rx;exact SeqAt.EqAt.none_bool b
  |int b=>obtain⟨t,rfl⟩:=rx;exact SeqAt.EqAt.none_int b t
  |str b=>obtain⟨t,rfl⟩:=rx;exact SeqAt.EqAt.none_str b t
  |_=>exact absurd (show false=true from fx) Bool.false_ne_true
 |bl a=>
  cases ry;cases x with
  |bU=>cases rx;exact SeqAt.EqAt.bool_none a
  |bl b=>cases rx;exact SeqAt.EqAt.bool_bool a b
  |int b=>obtain⟨t,rfl⟩:=rx;exact SeqAt.EqAt.bool_int a b t
  |str b=>obtain⟨t,rfl⟩:=rx;exact SeqAt.EqAt.bool_str a b t
  |_=>exact absurd (show false=true from fx) Bool.false_ne_true
 |int a=>
  obtain⟨t',rfl⟩:=ry;cases x with
  |bU=>cases rx;exact SeqAt.EqAt.int_none a t'
  |bl b=>cases rx;exact SeqAt.EqAt.int_bool a t' b
  |int b=>obtain⟨t,rfl⟩:=rx;exact SeqAt.EqAt.int_int a t' b t
  |str b=>obtain⟨t,rfl⟩:=rx;exact SeqAt.EqAt.int_str a t' b t
  |_=>exact absurd (show false=true from fx) Bool.false_ne_true
 |str a=>
  obtain⟨t',rfl⟩:=ry;cases x with
  |bU=>cases rx;exact SeqAt.EqAt.str_none a t'
  |bl b=>cases rx;exact SeqAt.EqAt.str_bool a t' b
  |int b=>obtain⟨t,rfl⟩:=rx;exact SeqAt.EqAt.str_int a t' b t
  |str b=>obtain⟨t,rfl⟩:=rx;exact SeqAt.EqAt.str_str a t' b t
  |_=>exact absurd (show false=true from fx) Bool.false_ne_true
 |_=>exact absurd (show false=true from fy) Bool.false_ne_true
noncomputable def ke (x:V) (u:Value):Bool:=match u with
 | .none=>lR .bU x
 | .bool b=>lR (.bl b) x
 | .int i _=>lR (.int i) x
 | .str z _=>lR (.str z) x
 |_=>false
theorem uJ{y:V}{u:Value}(r:RelV y u)(f:gY y=true):ke x u=lR y x:=by
 cases y with
 |bU=>cases r;rfl
 |bl b=>cases r;rfl
 |int i=>obtain⟨t,rfl⟩:=r;rfl
 |str z=>obtain⟨t,rfl⟩:=r;rfl
 |_=>exact absurd (show false=true from f) Bool.false_ne_true
theorem oM{x:V}:∀{xs:List V} {us:List Value},Vals xs us->xs.all gY=true->us.any (ke x)=xs.any λy=>lR y x
 |_,_,.nil,_=>rfl
 |y::xs,u::us,.cons r t,f=>by
  rw[all_cons,and_eq_true]at f;rw[any_cons,any_cons,uJ r f.1,oM t f.2]
theorem jL{A:Around}{s:Shared}{x:V}{v:Value}(rx:RelV x v)(fx:gY x=true):∀{xs:List V} {us:List Value},Vals xs us->xs.all gY=true->∀u∈us,SeqAt.EqAt A s u v (ke x u)
 |_,_,.nil,_=>λu hu=>by cases hu
 |y::xs,u::us,.cons r t,f=>λu' hu=>by
  rw[all_cons,and_eq_true]at f;rcases mem_cons.mp hu with rfl|hu
  ·rw[uJ r f.1];exact OC r rx f.1 fx
  ·exact jL rx fx t f.2 u' hu
noncomputable def uy (x:V) (xs:List V):Bool:=xs.any λy=>lR y x
noncomputable def Iw (K:PySem.W.Frag) (neg:Bool):R2:=λx y H Q=>∃p xs,y=.ref p/\(fF K H p xs\/jI K H p xs)/\gY x=true/\xs.all gY=true/\Q (.bl (if neg then !uy x xs else uy x xs)) H
theorem wB:dF X (compareOp .In) (Iw X.K false):=by
 intro pins s σ H x y v u Q I rx ry h;obtain⟨p,xs,rfl,hq,fx,fs,q⟩:=h;cases ry;rcases hq with hq|hq
 ·obtain⟨aA,r,pl,hz⟩:=I.list hq;refine SeqAt.in_listAt (ke x) pl.isList (λw hw=>jL rx fx r fs w (by simpa using hw)) ⟨.bl _,H,I,rfl,?_⟩;rw[show aA.toArray.any (ke x)=aA.any (ke x) by simp,oM r fs];exact q
 ·obtain⟨aA,r,pl,hz⟩:=I.tuple hq;refine SeqAt.in_tupleAt (ke x) pl (λw hw=>jL rx fx r fs w (by simpa using hw)) ⟨.bl _,H,I,rfl,?_⟩;rw[show aA.toArray.any (ke x)=aA.any (ke x) by simp,oM r fs];exact q
theorem qr:dF X (compareOp .NotIn) (Iw X.K true):=by
 intro pins s σ H x y v u Q I rx ry h;obtain⟨p,xs,rfl,hq,fx,fs,q⟩:=h;cases ry;rcases hq with hq|hq
 ·obtain⟨aA,r,pl,hz⟩:=I.list hq;refine SeqAt.notIn_listAt (ke x) pl.isList (λw hw=>jL rx fx r fs w (by simpa using hw)) ⟨.bl _,H,I,rfl,?_⟩;rw[show aA.toArray.any (ke x)=aA.any (ke x) by simp,oM r fs];exact q
 ·obtain⟨aA,r,pl,hz⟩:=I.tuple hq;refine SeqAt.notIn_tupleAt (ke x) pl (λw hw=>jL rx fx r fs w (by simpa using hw)) ⟨.bl _,H,I,rfl,?_⟩;rw[show aA.toArray.any (ke x)=aA.any (ke x) by simp,oM r fs];exact q
theorem qq:dF X (compareOp .NotIn) (λx y H Q=>∃i j,x=.str i/\y=.str j/\Q (.bl (!(!(Builtin.Str.occurrences j i 0 j.length 1).isEmpty))) H):=by
 intro pins s σ H x y v u Q I rx ry h;obtain⟨i,j,rfl,rfl,q⟩:=h;obtain⟨t,rfl⟩:=rx;obtain⟨t',rfl⟩:=ry;exact notIn_str ⟨.bl _,H,I,rfl,q⟩
theorem zX:iK X (.type "list") (λxs H Q=>∃p ys,xs=[.ref p]/\(fF X.K H p ys\/jI X.K H p ys)/\∀l,H l=none->Q (.ref l) (upd H l (.lst ys))):=by
 intro pins s σ H xs us Q I r h;obtain⟨p,ys,rfl,hq,q⟩:=h;obtain⟨u,rfl,rx⟩:=vals1 r;cases rx;have fin:∀(aA:List Value),Vals ys aA->ys.length<=sizeLine->∀(h':Heap) (c':Nat),(∀b o',s.heap.get? b=some o'->h'.get? b=some o')->
   h'.get? s.heap.objs.size=some {cls:=.type "list",dict:=none,data:=.seq aA.toArray c',slots:=#[]}->EP X pins σ Q (.ref s.heap.objs.size) {s with heap:=h'}:=λaA r' hz h' c' kp e=>
  ⟨.ref s.heap.objs.size,_,I.laid (t':=s.toks) kp (le_refl _) (show iJ X.prog X.w _ h' _ (.lst ys)from⟨hz,aA,c',r',e⟩),rfl,q _ (I.hok.fresh (le_refl _))⟩
 rcases hq with hq|hq
 ·obtain⟨aA,r',pl,hz⟩:=I.list hq;have hlen:=r'.length;obtain⟨o,ho,hc,n,hd⟩:=pl.isList;exact call_list_seq p (.inl rfl) ho hc hd (λh' c' kp e=>fin aA r' hz h' c' kp e) (by simp only[size_toArray]<;>omega)
 ·obtain⟨aA,r',pl,hz⟩:=I.tuple hq;have hlen:=r'.length;obtain⟨o,ho,hc,n,hd⟩:=pl;exact call_list_seq p (.inr rfl) ho hc hd (λh' c' kp e=>fin aA r' hz h' c' kp e) (by simp only[size_toArray]<;>omega)
theorem xr:iK X (.type "tuple") (λxs H Q=>∃p ys,xs=[.ref p]/\((fF X.K H p ys/\∀l,H l=none->Q (.ref l) (upd H l (.tup ys)))\/(jI X.K H p ys/\Q (.ref p) H))):=by
 intro pins s σ H xs us Q I r h;obtain⟨p,ys,rfl,h⟩:=h;obtain⟨u,rfl,rx⟩:=vals1 r;cases rx;rcases h with⟨hq,q⟩|⟨hq,q⟩
 ·obtain⟨aA,r',pl,hz⟩:=I.list hq;have hlen:=r'.length;refine call_tuple_list pl.isList (λh' kp=>?_) (by simp only[size_toArray]<;>omega);have I1:Inv X pins σ H {s with heap:=h'}:=I.kept (t':=s.toks) kp;have I2:Inv X pins σ (upd H h'.objs.size (.tup ys)) {s with heap:=h'.push {cls:=.type "tuple",data:=.seq aA.toArray}}:=
   I1.laid (t':=s.toks) (λb o e=>get?_push_of_some _ e) (le_refl _) (show iJ X.prog X.w _ _ _ (.tup ys)from⟨hz,aA,r',IsTup.new _ _⟩)
  exact⟨.ref h'.objs.size,_,I2,rfl,q _ (I1.hok.fresh (le_refl _))⟩
 ·obtain⟨aA,r',pl,hz⟩:=I.tuple hq;exact call_tuple_same pl ⟨.ref p,H,I,rfl,q⟩
def LP (K:PySem.W.Frag) (T:String) (x:V) (H:Hp):Prop:=match x with
 | .str _=>T="str"
 | .int _=>T="int"
 | .ref p=>(T="list"/\∃xs,fF K H p xs)\/(T="tuple"/\∃o,K.lookup p=some o/\o.cls=.type "tuple"/\o.dict=none)\/
   (T="dict"/\((∃cc,H p=some (.dK cc))\/∃cc,H p=some (.dT cc)))\/(T="set"/\∃S n,H p=some (.set S n))
 |_=>False
variable {pins:List (Addr×Obj)} {σ:St} {H:Hp} {T:String}
theorem pX{s:Shared}{v:Value}(I:Inv X pins σ H s)(r:RelV x v)(ty:LP X.K T x H):
  s.TypeIs v T/\∀a,v=.ref a->∃ob,s.heap.get? a=some ob/\ob.dict=none:=by
 cases x with
 |str z=>
  obtain⟨t,rfl⟩:=r;cases(show T="str" from ty);exact⟨typeIs_str s z t,λ_ e=>nomatch e⟩
 |int i=>
  obtain⟨t,rfl⟩:=r;cases(show T="int" from ty);exact⟨typeIs_int s i t,λ_ e=>nomatch e⟩
 |ref p=>
  cases r;rcases ty with⟨rfl,xs,hq⟩|⟨rfl,o,hk,hc,hd⟩|⟨rfl,hk⟩|⟨rfl,S,n,hk⟩
  ·obtain⟨aA,_,pl,_⟩:=I.list hq;refine⟨pl.isList.typeIs,λa e=>?_⟩;cases e;obtain⟨o,n,e,c,hd,_⟩:=pl;exact⟨o,e,hd⟩
  ·refine⟨⟨o,I.jE p o hk,hc⟩,λa e=>?_⟩;cases e;exact⟨o,I.jE _ o hk,hd⟩
  ·have z:∃o,s.heap.get? p=some o/\o.ExactDict:=by
    rcases hk with⟨cc,hk⟩|⟨cc,hk⟩
    ·obtain⟨_,_,_,_,o,_,_,e,ex,_⟩:=I.hok p _ hk;exact⟨o,e,ex⟩
    ·obtain⟨_,_,_,_,o,_,_,e,ex,_⟩:=I.hok p _ hk;exact⟨o,e,ex⟩
   obtain⟨o,e,ex⟩:=z;refine⟨⟨o,e,ex.1⟩,λa e2=>?_⟩;cases e2;exact⟨o,e,ex.2.1⟩
  ·obtain⟨o,_,_,_,e,ex,_⟩:=I.hok p _ hk;refine⟨⟨o,e,ex.1⟩,λa e2=>?_⟩;cases e2;exact⟨o,e,ex.2.1⟩
 |_=>exact False.elim ty
noncomputable def Mb (K:PySem.W.Frag) (T:String) (r:V->List V->Hp->VK->Prop) (to:TE) (t:TA):TE:=λσ H Q=>to σ H λx H1=>LP K T x H1/\t σ H1 λxs H2=>r x xs H2 Q
variable {apos gc:Pos} {t:TA} {es:List Expr} {id:String} {o:Expr} {to:TE} {name:Str}
variable {r:V->List V->Hp->VK->Prop} in
theorem nQ(pa:PlainAttrs T)(slot:Slot T name id)(NL:typeOf (.builtin id)=pure (.type "method_descriptor"))(hm:v9 X id r)(ho:PE X o to)(ha:PA X (e::es) t)(dS:attributeBase o name X.env (eval o X.env)=eval o X.env:=by rfl)(gV:((backTo gc (starEach (e::es) X.env)).all (λx=>!x.1)&&(backToKw gc (keywordEach [] X.env)).all (λx=>x.1.isSome)
   &&decide ((e::es).length+([]:List Keyword).length+(if([]:List Keyword).isEmpty then 0 else 1)<30))=true:=by rfl)(dR:(apos.endLine==gc.line)=true:=by rfl)(hs:starEach (e::es) X.env=(false,eval e X.env)::starEach es X.env:=by rfl)(ez:(backTo gc (starEach es X.env)).any (·.1)=false:=by rfl):
  PE X (.Call (.Attribute o name apos) (e::es) [] gc) (Mb X.K T r to t):=by
 intro pins s σ H Q I h;refine wpAny_Call_method_late dS gV dR rfl (bP (ho pins s σ H _ I h) λv s1 ⟨x,H1,I1,r1,ty,q1⟩=>?_);obtain⟨h1,h2⟩:=pX I1 r1 ty;refine⟨T,id,pa,slot,NL,h1,h2,?_⟩;have hA:=ha gc pins s1 σ H1 _ I1 q1;rw[hs]at hA ⊢;refine Calls.callWith_builtin (by show(false || (backTo gc (starEach es X.env)).any (·.1))=false;rw[ez]<;>rfl) (Calls.evalArgs_plain ?_);exact bP hA λus s2 ⟨vs,H2,I2,r2,q2⟩=>hm pins s2 σ H2 x vs v us Q I2 r1 r2 q2
open PySem PySem.Spec PyProof.Rows
def Yi (X:Cx) (id:String) (r:V->List V->Hp->VK->Prop):Prop:=
 ∀(pins:List (Addr×Obj)) (s:Shared) (σ:St) (H:Hp) (x:V) (xs:List V) (v:Value) (us:List Value) (Q:VK),Inv X pins σ H s->RelV x v->Vals xs us->r x xs H Q->
  wpAny (model X.prog X.w) X.A (call (.builtin id) (v::us)) (EP X pins σ Q) X.xe s
theorem Vals.one:∀{x:V} {us:List Value},Vals [x] us->∃u,us=[u]/\RelV x u
 |_,_,.cons r .nil=>⟨_,rfl,r⟩
variable {ys:List V}
variable {l:Addr} {s:Shared} in
theorem Inv.Uy{aA its':List Value}{f:Array Value->Array Value}{t':Nat}(I:Inv X pins σ H s)(hH:H l=some (.lst xs))(e:s.heap.get? l=some {cls:=.type "list",data:=.seq aA.toArray n})(hf:f aA.toArray=its'.toArray)(hv:Vals ys its')(hz:ys.length<=sizeLine):
  Inv X pins σ (upd H l (.lst ys)) {s with heap:=s.heap.update l (Obj.mapSeq f),toks:=t'}:=by
 have q:=PySem.IsL.update e f;rw[hf]at q;refine I.write (x:=l) (e:=l) (by rw[hH];exact trivial) (.inl rfl) (λb' u hb hu=>(Heap.get?_update_other s.heap (Obj.mapSeq f) (Ne.symm hb)).trans hu) ⟨_,q⟩ ?_;exact⟨hz,its',_,hv,q⟩
variable {s:Shared} in
theorem Inv.Nt{aA:List Value}{t':Nat}(I:Inv X pins σ H s)(hv:Vals ys aA)(hz:ys.length<=sizeLine):
  Inv X pins σ (upd H s.heap.objs.size (.lst ys)) {s with heap:=s.heap.push {cls:=.type "list",data:=.seq aA.toArray},toks:=t'}:=
 I.laid (λ_ _ q=>get?_push_of_some _ q) (le_refl _) ⟨hz,aA,0,hv,get?_push_size _ rfl⟩
variable {s:Shared} in
theorem Inv.fresh(I:Inv X pins σ H s):H s.heap.objs.size=none:=I.hok.fresh (le_refl _)
variable {l:Addr} {s:Shared} in
theorem Inv.Ux(I:Inv X pins σ H s)(hH:H l=some (.lst xs)):xs.length<=sizeLine/\∃(aA:List Value) (n:Nat),Vals xs aA/\xs.length=aA.length/\s.heap.get? l=some {cls:=.type "list",data:=.seq aA.toArray n}:=by
 obtain⟨z,aA,n,r,e⟩:=I.hok l _ hH;exact⟨z,aA,n,r,r.length,e⟩
noncomputable def Kk:V->List V->Hp->VK->Prop:=λx vs H Q=>∃l xs y,x=.ref l/\vs=[y]/\H l=some (.lst xs)/\xs.length<sizeLine/\Q .bU (upd H l (.lst (xs++[y])))
theorem E4:Yi X "list.append" Kk:=by
 intro pins s σ H x vs v us Q I rx rv h;obtain⟨l,xs,y,rfl,rfl,hH,hz,q⟩:=h;cases rx;obtain⟨u,rfl,ru⟩:=rv.one;obtain⟨z,aA,n,r,hl,e⟩:=I.Ux hH;refine call_meets F.slot_list_append ⟨_,e,rfl⟩ F.entry_list_append (F.args_list_append_2 _ _) (PySem.list_append l aA.toArray n u (by rw[size_toArray];omega)) ⟨e,?_⟩;refine⟨.bU,_,I.Uy (its':=aA++[u]) hH e (by simp) (r.append (.cons ru .nil)) ?_,rfl,q⟩;rw[length_append,length_singleton];omega
end
end L2
namespace TY
noncomputable section
open PySem PySem.W PySem.Calls PyProof.Rows
variable {h:Heap}
theorem uw{P:Params}:∀(ns:List Int) (vs:List Value),WellAll P h vs (ns.map WData.int)->IntsAre vs ns:=by
 intro ns;induction ns with
 |nil=>
  intro vs w;rw[map_nil]at w;cases w;exact .nil
 |cons n ns ih=>
  intro vs w;rw[map_cons]at w;cases w with
  |cons a b=>
   cases a;exact .cons _ _ (ih _ b)
variable {n:Nat}
theorem De{l:OpenLaw}(hn:l.most=some n){P:Params}{args:List WData}{vals:List Value}(Ca:l.row.toRowW.claim.pre args=true)(NK:WellAll P h vals args):
  ∃a vs ns,vals=[Value.ref a]/\args=[WData.list (ns.map WData.int)]/\h.get? a=some {cls:=.type "list",data:=.seq vs.toArray}/\IntsAre vs ns/\ns.length<=n:=by
 have W9:WShape.hasAll [] args [.list .int]=true:=(pre_splitW Ca).1;have hc:l.pre.holds [] {args:=args}=true:=(pre_splitW Ca).2;obtain⟨d,r,rfl,h1,h2⟩:=hasAllW_cons W9;obtain rfl:=hasAllW_nil h2;obtain⟨xs,rfl,h3⟩:=hasW_list h1;obtain⟨ns,rfl⟩:=items_int h3;have hlen:ns.length<=n:=by
  unfold OpenLaw.pre at hc;have h4:(WTm.not (.lt (.lit (.int (n:Int))) (.len (.arg 0)))).holds [] {args:=[.list (ns.map .int)]}=true:=by
   have h4:=(holds_andW hc).1;rw[hn]at h4;exact h4
  have h5:=condW_of h4 (w_not (w_lt w_lit (w_len_list (w_arg rfl))));rw[length_map]at h5;refine Nat.le_of_not_lt λq=>?_;have q':(n:Int)<((ns.length:Nat):Int):=by omega
  first
   |(rw[decide_eq_true q']at h5;exact absurd h5 (by decide))
   |(simp at h5;omega)
 cases NK with
 |cons w1 w2=>
  cases w2;cases w1 with
  |list ho nF=>exact⟨_,_,ns,rfl,rfl,ho,uw ns _ nF,hlen⟩
theorem Dz(l:OpenLaw)(args:List WData):l.row.toRowW.claim.post args (.bool true) args=true:=
 postW_of (r:=l.row.toRowW) (X:=(true==true))
  (show WShape.has [] (.bool true) .bool=true by first|rfl|decide|simp[WShape.has,WShape.arms,WShape.armsAll])
  (show(WTm.eq .res (.lit (.bool true))).value [] {args:=args,res:=some (.bool true),after:=args}=some (.bool (true==true))from w_eq_bool (w_res rfl) w_lit) rfl
variable {q:Program} {loose:List Str} {XP:(Str->Option Value)->Heap->Prop} {YP:World->Heap->Prop}
theorem An{l:OpenLaw}{d:DefRec}(hn:l.most=some n)(Et:d.params.defaults=[])(call:∀(w:World) (aC bX:Shared) (mg mb:Str->Option Value) (fa:Addr) (o:Obj) (pm cd doc:Value) (a:Addr) (vs:List Value) (ns:List Int),
   Ground q loose [] XP w aC mg mb bX.heap->YP w bX.heap->
   bX.heap.get? fa=some o->o.data=.func (docDef d.name d.params d.body d.scope pm cd doc)->bX.heap.CodeRec cd d.name->mg d.name=some (.ref fa)->
   bX.heap.get? a=some {cls:=.type "list",data:=.seq vs.toArray}->IntsAre vs ns->ns.length<=n->bX.gens=#[]->
   codeAny (model l.prog w) callerA (.call (.ref fa) ⟨[.ref a],[]⟩) (λr s'=>r=.ok (.ret (.bool true))/\OldK bX.heap s'.heap/\s'.os=bX.os/\AllBare s'.gens) bX):
  WalkO q loose XP YP l.row.toRowW d [] (λf vs=>PySem.call f vs):=by
 intro w aC bX mg mb G Y fa o pm cd doc dV kV ho hd gy hD Eo hg args vals as Ca hlay hrd NK Jc;obtain rfl:dV=.none:=Dflts.none hD Et;obtain rfl:kV=.none:=Dflts.noKw hD;obtain⟨a,vs,ns,rfl,rfl,Hl,hints,hlen⟩:=De hn Ca NK;refine enter_call (codeAny_mono (call w aC bX mg mb fa o pm cd doc a vs ns G Y ho (fd_plain hd) gy Eo Hl hints hlen hg) λr s' hq=>?_);obtain⟨rfl,h2,h3,h4⟩:=hq;exact⟨.inl ⟨.bool true,.bool true,[],rfl,λ_=>rfl,.bool true,Dz l _,λ_=>⟨List.Pairwise.nil,λ_ hm=>(nomatch hm)⟩⟩,h2,h3,h4⟩
end
end TY
namespace L2
noncomputable section
open PySem PySem.Spec PyProof.Rows
theorem w4:∀{vs:List Value} {ns:List Int},IntsAre vs ns->Vals (ns.map V.int) vs
 |_,_,.nil=>.nil
 |_,_,.cons n t h=>.cons ⟨t,rfl⟩ (w4 h)
def I0 (H:Hp):Prop:=∀b,H b=none\/∃o xs,H b=some (.jt o (.lst xs))
variable {P:Program} {w:World} {mg:Str->Option Value} {a:Addr} {fd:FuncData} {x:Str}
theorem Hf{K:PySem.W.Frag}{mb:Str->Option Value}{CX:pT}{k:Nat}{fa:Addr}{sp:Sp}{bX:Shared}{vs:List Value}{ns:List Int}(KX:K.In bX.heap)(wM:bX.heap.Ns mainGlobals mg)(hb:bX.heap.Ns builtinsNs mb)(WN:∀x:Str,x≠"__name__"->mb x=bootBuiltins x)(UP:bX.heap.NoLimit)(hg:bX.gens=#[])(ha:bX.heap.get? a=some {cls:=.type "list",data:=.seq vs.toArray})(hi:IntsAre vs ns)(hl:ns.length<=sizeLine)(hr:cj k callerA)(F:∀base:Heap,K.In base->base.Ns mainGlobals mg->gg P w K mg base CX k fa fd [x] sp)(QU:∀(s:Shared) (u:Value),BindsTo s fd ⟨[u],[]⟩ [(x,u)])(i7:∀H:Hp,I0 H->fF K H a (ns.map V.int)->sp [.ref a] H (λv _=>v=.bl true) λ_ _ _=>False)(Oc:∀H e s',CX [] H bX (λ_ _ _=>False) e s'->False):
  codeAny (model P w) callerA (.call (.ref fa) ⟨[.ref a],[]⟩) (λr s'=>r=.ok (.ret (.bool true))/\OldK bX.heap s'.heap/\s'.os=bX.os/\AllBare s'.gens) bX:=by
 have rv:=w4 hi;have Uz:=hi.length

 have core:∀H:Hp,I0 H->fF K H a (ns.map V.int)->gA P w H bX.heap->(∀b,H b≠none->b=a)->(H a≠none->K.lookup a=none)->
   codeAny (model P w) callerA (.call (.ref fa) ⟨[.ref a],[]⟩) (λr s'=>r=.ok (.ret (.bool true))/\OldK bX.heap s'.heap/\s'.os=bX.os/\AllBare s'.gens) bX:=by
  intro H hO hS hok hA hK;have BF:∀{b:Addr} {o:Obj},bX.heap.get? b=some o->H b=none->(pG bX.heap H).get? b=some o:=λe n=>Hm e n;have DX:∀{b:Addr} {o:Obj} {es:Array DictEntry} {ep:Nat},bX.heap.get? b=some o->o.data=.dict es ep->H b=none:=fun{b o es ep} e d=>by
   cases q:H b with
   |none=>rfl
   |some u=>
    have e':b=a:=hA b (by rw[q];simp);subst e';rw[ha]at e;cases e;have d':Data.seq vs.toArray _=Data.dict es ep:=d;cases d'
  have IJ:∀{b:Addr} {m:Str->Option Value},bX.heap.Ns b m->(pG bX.heap H).Ns b m:=fun{b m} ⟨o,es,ep,e,d,r⟩=>⟨o,es,ep,BF e (DX e d),d,r⟩;have Sa:K.In (pG bX.heap H):=λb o e=>BF (KX b o e) (by
   cases q:H b with
   |none=>rfl
   |some u=>
    have e':b=a:=hA b (by rw[q];simp);subst e';rw[hK (by rw[q];simp)]at e;cases e)
  have hM:Mod K mg (pG bX.heap H):=⟨Sa,IJ wM,⟨mb,IJ hb,WN⟩,let ⟨mc,h1,h2⟩:=UP;⟨mc,IJ h1,h2⟩⟩;have e0:Ad P w K mg (pG bX.heap H) callerA [] bX H:=⟨rfl,hM,λb o e=>KL e,Nat.le_of_eq (Ep _ _),trivial,λb hb=>absurd (show b∈([]:List Addr)from hb) (by simp),hok,.of_eq hg⟩;refine codeAny_mono ((F _ Sa (IJ wM)).run callerA [] bX H ⟨[.ref a],[]⟩ [.ref a] [.ref a] _ _ hr e0 (QU bX (.ref a)) (.cons rfl .nil) (i7 H hO hS)) λr s' h=>?_;cases r with
  |error e=>exact(Oc H e s' h).elim
  |ok fl=>
   cases fl with
   |next=>exact False.elim h
   |brk=>exact False.elim h
   |cont=>exact False.elim h
   |ret u=>
    obtain⟨v,H',os,bare,un,Cb,r',q⟩:=h;have q':v=.bl true:=q;subst q';obtain rfl:u=Value.bool true:=r';refine⟨rfl,OldK.of_keep λb o e=>?_,os,bare⟩;cases q:H b with
    |none=>exact un.keep b o e q (by intro z;exact absurd (show b∈([]:List Addr)from z) (by simp)) (by simp)
    |some u=>
     rcases hO b with z|⟨ob,xs,z⟩
     ·rw[q]at z;cases z
     ·have z2:=un.frzs b ob _ z;obtain⟨e1,_⟩:=hok b _ z;obtain⟨e2,_⟩:=Cb b _ z2;rw[e]at e1;cases e1;exact e2
 cases hk:K.lookup a with
 |some o=>

  have e:=KX a o hk;rw[ha]at e;cases e;refine core (λ_=>none) (λ_=>.inl rfl) (.inr ⟨_,vs.toArray,_,hk,rfl,rfl,rfl,by rw[size_toArray,Uz];exact hl,by simpa using rv⟩) (λb u z=>by have z':(none:Option HO)=some u:=z;cases z') (λb z=>absurd rfl z) λz=>absurd rfl z
 |none=>
  refine core (λb=>if b=a then some (.jt {cls:=.type "list",data:=.seq vs.toArray} (.lst (ns.map V.int)))else none) (λb=>?_) (.inl (.inr ⟨{cls:=.type "list",data:=.seq vs.toArray},if_pos rfl⟩)) (λb u z=>?_) (λb z=>?_) λ_=>hk
  ·by_cases hb:b=a
   ·exact .inr ⟨_,_,if_pos hb⟩
   ·exact .inl (if_neg hb)
  ·by_cases hb:b=a
   ·have z':=(if_pos hb).symm.trans z;cases z';subst hb;exact⟨ha,by rw[length_map];exact hl,vs,_,rv,ha⟩
   ·have z':=(if_neg hb).symm.trans z;cases z'
  ·by_cases hb:b=a
   ·exact hb
   ·exact absurd (if_neg hb) z
open PySem PySem.Spec PyProof.Rows
variable {n:Nat}
theorem JV{l:PySem.W.OpenLaw}{k:Nat}{q:Program}{loose:List Str}{XP:(Str->Option Value)->Heap->Prop}{YP:World->Heap->Prop}{d:DefRec}{K:Params->PySem.W.Frag}{CX:World->pT}{sp:World->Sp}(hn:l.most=some n)(uA:n<=sizeLine)(Et:d.params.defaults=[])(hr:cj k callerA)(hY:∀(w:World) (h:Heap),YP w h->(K w.params).In h)(F:∀(w:World) (mg:Str->Option Value) (fa:Addr) (h:Heap),(K w.params).In h->h.Ns mainGlobals mg->mg d.name=some (.ref fa)->
   ∃fd:FuncData,(∀(s:Shared) (u:Value),BindsTo s fd ⟨[u],[]⟩ [(x,u)])/\
    ∀base:Heap,(K w.params).In base->base.Ns mainGlobals mg->gg l.prog w (K w.params) mg base (CX w) k fa fd [x] (sp w))(i7:∀(w:World) (H:Hp) (a:Addr) (ns:List Int),ns.length<=n->I0 H->fF (K w.params) H a (ns.map V.int)->sp w [.ref a] H (λv _=>v=.bl true) λ_ _ _=>False)(Oc:∀(w:World) (H:Hp) (s:Shared) (e:Value) (s':Shared),CX w [] H s (λ_ _ _=>False) e s'->False):
  PySem.W.WalkO q loose XP YP l.row.toRowW d [] (λf vs=>PySem.call f vs):=by
 refine TY.An hn Et λw aC bX mg mb fa o pm cd doc a vs ns G Y ho hd gy Eo Hl hints hlen hg=>?_;have KX:=hY w _ Y;obtain⟨fd,hb,hF⟩:=F w mg fa _ KX G.T.g Eo;exact Hf KX G.T.g G.T.b G.T.builtins G.T.nolimit hg Hl hints (le_trans hlen uA) hr hF hb (λH hO hS=>i7 w H a ns hlen hO hS) λH e s'=>Oc w H bX e s'
open PySem PySem.Spec PyProof.Rows
noncomputable def kf (s:Stmt):Arguments:=match s with
 | .FunctionDef _ a _ _ _ _ _ _ _ _=>a
 |_=>{posonlyargs:=[],args:=[],vararg:=none,kwonlyargs:=[],kw_defaults:=[],kwarg:=none,defaults:=[]}
noncomputable def d4 (s:Stmt):List Stmt:=match s with
 | .FunctionDef _ _ b _ _ _ _ _ _ _=>b
 |_=>[]
noncomputable def aP (s:Stmt):Scope:=match s with
 | .FunctionDef _ _ _ _ _ _ sc _ _ _=>sc
 |_=>{kind:=.function,names:=[],isGenerator:=false,isCoroutine:=false}
noncomputable abbrev j0:pT:=λ_ _ _ _ _ _=>False
noncomputable abbrev E0:XK:=λ_ _ _=>False
variable {X:Cx}
theorem rH:Passes j0 X E0:=λ_ _ _ _ _ _ _ h=>h.elim
structure mw (K:PySem.W.Frag) (x qual:Str) (st:Stmt) (f:Addr) (fd:FuncData):Prop where
 ex:∃(oc:Value) (od:Option Addr) (kV doc pm:Value) (an:Option Addr) (bJ ct:Value) (nR:Array (Option Value)),
  fd=fnOf x qual (kf st) (d4 st) (aP st) .none kV doc pm an bJ ct/\K.lookup f=some ⟨oc,od,.func fd,nR⟩/\codeIn K bJ qual=true
 kp:keepIn K (.ref f)=true
variable {K:PySem.W.Frag} {base:Heap} {qual:Str} {st:Stmt} {f:Addr} {N ps:List Str} {sp:Sp}
theorem mw.ok{k:Nat}(F:mw K x qual st f fd)(S:eh N ps (aP st))(len:∀vs H Q E,sp vs H Q E->vs.length=ps.length)(hbody:∀(bJ:Value) (A:Around) (outer:List Env) (s:Shared) (H:Hp) (vs:List V) (Q:VK) (E:XK),cj k (A.deeper (envOfC qual (aP st) s.heap.objs.size f bJ))->sp vs H Q E->
   ∃t,iu (g9 j0 P w K mg base N qual (aP st) f bJ A outer s H E).lL (d4 st) t/\t {nx:=λ_ H'=>Q .bU H',rt:=Q} (start N vs) H):gg P w K mg base j0 (k+1) f fd ps sp:=by
 obtain⟨oc,od,kV,doc,pm,an,bJ,ct,nR,rfl,lk,gy⟩:=F.ex;refine Jq lk gy S len λA outer s H vs Q E hr i7=>?_;obtain⟨t,h,q⟩:=hbody bJ A outer s H vs Q E hr i7;exact⟨t,h.lL,q⟩
theorem mw.binds(F:mw K x qual st f fd)(h:∀(kV doc pm:Value) (an:Option Addr) (bJ ct:Value) (us:List Value),us.length=ps.length->bindArgs (fnOf x qual (kf st) (d4 st) (aP st) .none kV doc pm an bJ ct) ⟨us,[]⟩=pure (ps.zip us)):Binds K fd ps []:=by
 obtain⟨oc,od,kV,doc,pm,an,bJ,ct,nR,rfl,lk,gy⟩:=F.ex;exact .all (h kV doc pm an bJ ct)
variable {oc doc pm bJ ct:Value} {od an:Option Addr} {nR:Array (Option Value)}
theorem zG{kV:Value}(l:K.lookup f=some ⟨oc,od,.func (fnOf x qual (kf st) (d4 st) (aP st) .none kV doc pm an bJ ct),nR⟩)(c:codeIn K bJ qual=true)(k:keepIn K (.ref f)=true):mw K x qual st f (fnOf x qual (kf st) (d4 st) (aP st) .none kV doc pm an bJ ct):=⟨⟨oc,od,kV,doc,pm,an,bJ,ct,nR,rfl,l,c⟩,k⟩
theorem bC(h:n<=1000):n<sizeLine:=lt_of_le_of_lt h (by decide)
variable {pos:Pos}
theorem pv(i:Nat)(hN:X.N[i]?=some x:=by rfl)(hv:oN X.env.scope x:=by first|exact Or.inl rfl|exact Or.inr (Or.inl rfl)|exact Or.inr (Or.inr rfl))(hd:(x==("__debug__" : Str))=false:=by decide)(gy:(x==("__classdict__" : Str))=false:=by decide):PE X (.Name x pos) (yb i):=nh hN hv hd gy
def aO (H H':Hp):Prop:=∀b o,H b=some o->H' b=some o
theorem aO.refl(H:Hp):aO H H:=λ_ _ h=>h
variable {H H1 H2:Hp}
theorem aO.trans(a:aO H H1)(b:aO H1 H2):aO H H2:=λc o h=>b c o (a c o h)
open PySem PySem.Spec PyProof.Rows
variable {κ:Type} [DecidableEq κ]
noncomputable def nY (cc:List (κ×V)) (k:κ):Option V:=(cc.find? λkv=>decide (kv.1=k)).map (·.2)
theorem Ga{p:κ×V}{r:List (κ×V)}{k:κ}(e:p.1=k):nY (p::r) k=some p.2:=by simp[nY,find?_cons,e]
theorem Gd{p:κ×V}{r:List (κ×V)}{k:κ}(e:¬p.1=k):nY (p::r) k=nY r k:=by simp[nY,find?_cons,e]
theorem qT.Ed{o:Option V}{u:Option Value}(r:qT o u):o.isSome=u.isSome:=by
 cases o with
 |none=>cases u with
  |none=>rfl
  |some _=>exact(show False from r).elim
 |some _=>cases u with
  |none=>exact(show False from r).elim
  |some _=>rfl
theorem KV.val{cc:List (κ×V)}{vs:List (κ×Value)}(r:KV cc vs)(k:κ):qT (nY cc k) (valueAt vs k):=by
 unfold KV at r;induction r with
 |nil=>exact True.intro
 | @cons p q ps qs h t ih=>
  obtain⟨h1,h2⟩:=h;by_cases e:p.1=k
  ·have e':q.1=k:=h1.symm.trans e;have b:valueAt (q::qs) k=some q.2:=by simp[valueAt,find?_cons,e']
   rw[Ga e,b];exact h2
  ·have e':¬q.1=k:=λz=>e (h1.trans z);have b:valueAt (q::qs) k=valueAt qs k:=by simp[valueAt,find?_cons,e']
   rw[Gd e,b];exact ih
def PD (i:Expr):Prop:=∀ov iv,subscripted i false ov iv=operate [ov,iv] (getItem ov iv)
variable {prog:Program} {A:Around} {E:Value->Shared->Prop} {env:Env} {T id:String}
theorem JZ{s:Shared}{value slice:Expr}{Q:Value->Shared->Prop}(hl:typeLookup (.type T) "__getitem__"=pure (some (.builtin id)))(hs:PD slice)(h:wpAny (model prog w) A (eval value env) (λo bX=>wpAny (model prog w) A (eval slice env) (λi bx=>bx.TypeIs o T/\wpAny (model prog w) A (getItem o i) Q E bx) E bX) E s):
  wpAny (model prog w) A (eval (.Subscript value slice pos) env) Q E s:=by
 refine Subscript_ (wpAny_mono h (λo bX fN=>wpAny_mono fN (λi bx nz=>?_) λ_ _ x=>x) λ_ _ x=>x);obtain⟨hT,nz⟩:=nz;unfold subscriptTail;refine wpAny_bind ?_;rw[getitemInPython_of_ne hT.not_modules];refine wpAny_bind (wpAny_specialOf hT hl ?_);have fin:wpAny (model prog w) A (subscripted slice false o i) (λr hJ=>wpAny (model prog w) A (letTemporaryGo value o r >>= λ_=>pure r) Q E hJ) E bx:=by
  rw[hs o i];exact wpAny_operating (wpAny_mono nz (λr hJ C8=>wpAny_bind (wpAny_letTemporaryGo (wpAny_pure C8))) λ_ _ x=>x)
 first
  |exact wpAny_pure (wpAny_bind fin)
  |exact wpAny_bind (wpAny_pure (wpAny_bind fin))
  |exact wpAny_bind fin
open PySem PySem.Spec PyProof.Rows
variable {elt iter:Expr} {ifs:List Expr} {scope:Scope}
theorem qK{R:Result->Shared->Prop}{s:Shared}{target:Expr}{it acc:Value}(I:Nat->Shared->Prop)(turn:∀n s,I n s->wpAny (model prog w) A (pyNext it) (λr bX=>match r with
   |none=>R (.ok .next) bX
   |some v=>wpAny (model prog w) A (letOwnedTupleGo target it v) (λ_ Im=>wpAny (model prog w) A (assign target env v) (λ_ bx=>
     wpAny (model prog w) A (forIn ifs true λc r=>if r=true then do let ok <- isTrue c env (eval c env);pure (ForInStep.yield ok)else pure (ForInStep.yield r)) (λok hJ=>
      if ok=true then wpAny (model prog w) A (eval elt env) (λx vi=>
       wpAny (model prog w) A (call (.builtin "list.append") [acc,x]) (λ_ Mc=>∃m,m<n/\I m Mc) (notedBy (model prog w) A env λe s'=>R (.error e) s') vi) (notedBy (model prog w) A env λe s'=>R (.error e) s') hJ
      else ∃m,m<n/\I m hJ) (notedBy (model prog w) A env λe s'=>R (.error e) s') bx) (notedBy (model prog w) A env λe s'=>R (.error e) s') Im) (notedBy (model prog w) A env λe s'=>R (.error e) s') bX) (notedBy (model prog w) A env λe s'=>R (.error e) s') s)(n:Nat)(h:I n s):
  codeAny (model prog w) A (.compLoop (.ListComp elt [⟨target,iter,ifs,0⟩] scope pos) 0 it acc env) R s:=by
 refine codeAny_loop rfl I (λn s hI=>?_) n h;show wpAny _ A ((compTurn (.ListComp elt [⟨target,iter,ifs,0⟩] scope pos) 0 it acc env).onRaise (λx=>do noteFrame x env;theTreesLotGoes x)) _ _ s
 refine wpAny_noted ?_;rw[compTurn_list];refine wpAny_bind (wpAny_standAt (wpAny_bind (wpAny_mono (turn n s hI) (λr bX fN=>?_) λ_ _ h'=>h')));cases r with
 |none=>exact wpAny_pure fN
 |some v=>
  refine wpAny_bind (wpAny_mono fN (λ_ Im QJ=>?_) λ_ _ h'=>h');refine wpAny_bind (wpAny_mono QJ (λ_ bx nz=>wpAny_bind (wpAny_mono nz (λok hJ C8=>?_) λ_ _ h'=>h')) λ_ _ h'=>h');cases ok with
  |false=>exact wpAny_pure ⟨rfl,C8⟩
  |true=>
   exact wpAny_bind (wpAny_bind (wpAny_mono C8 (λx vi UG=>wpAny_bind (wpAny_mono UG (λ_ Mc UE=>wpAny_pure (wpAny_pure ⟨rfl,UE⟩)) λ_ _ h'=>h')) λ_ _ h'=>h'))
noncomputable abbrev kX (X:Cx) (scope:Scope) (cl:List (Str×Addr)) (N':List Str) (C:Addr) (aC:Shared) (aq:Hp) (ex:List Addr):Cx:=
 {prog:=X.prog,w:=X.w,K:=X.K,mg:=X.mg,base:=X.base,A:=X.A,N:=N',aC:=aC,aq:=aq,env:=compEnvC scope cl C X.env,outer:=X.stack,stack:=X.stack,ex:=ex,fn:=λ_=>false,calm:=X.calm,pn:=[],xe:=λ_ _=>False}
def qU (X:Cx) (ifs:List Expr) (t:TT):Prop:=
 ∀(pins:List (Addr×Obj)) (s:Shared) (σ:St) (H:Hp) (Q:Bool->Hp->Prop),Inv X pins σ H s->t σ H Q->
  wpAny (model X.prog X.w) X.A (forIn ifs true λc r=>if r=true then do let ok <- isTrue c X.env (eval c X.env);pure (ForInStep.yield ok)else pure (ForInStep.yield r)) (TP X pins σ Q) X.xe s
noncomputable def U3:TT:=λ_ H Q=>Q true H
theorem Ks:qU X [] U3:=λ_ _ _ H _ I h=>wpAny_tests_nil ⟨H,I,h⟩
theorem Kr{c:Expr}{t:TT}(h:PT X c t):qU X [c] t:=λpins s σ H Q I hw=>wpAny_tests_one (h pins s σ H Q I hw)
noncomputable def cn (cap:List (Option Nat)) (σ:St):St:=cap.map λo=>o.bind λj=>(σ[j]?).join
structure pU (X:Cx) (scope:Scope) (cl:List (Str×Addr)) (N':List Str) (cap:List (Option Nat)):Prop where
 clos:closureFor scope X.env=pure cl
 cells:∀y∈scope.names,y.2≠.cell
 kind:scope.kind=.function
 names:∀y∈scope.names,y.2=.local->scope.names.lookup y.1=some .local
 nd:N'.Nodup
 len:cap.length=N'.length
 sub:∀x c,cl.lookup x=some c->X.env.cells.lookup x=some c
 has:∀x,((relabel scope X.env).names.lookup x=some .cell\/(relabel scope X.env).names.lookup x=some .free)->∃c,cl.lookup x=some c
 cap:∀(i:Nat) (x:Str) (j:Nat),N'[i]?=some x->cap[i]?=some (some j)->X.N[j]?=some x/\oN X.env.scope x/\((relabel scope X.env).names.lookup x=some .cell\/(relabel scope X.env).names.lookup x=some .free)/\X.env.scope.names.lookup x≠some .local
noncomputable def fg:St->St->Prop
 |[],[]=>True
 |none::a,_::b=>fg a b
 |some v::a,u::b=>u=some v/\fg a b
 |_,_=>False
theorem fg.len:∀{a b:St},fg a b->a.length=b.length
 |[],[],_=>rfl
 |none::a,_::b,h=>congrArg (· + 1) (fg.len (a:=a) (b:=b) h)
 |some v::a,u::b,h=>congrArg (· + 1) (fg.len (a:=a) (b:=b) h.2)
 |[],_::_,h=>h.elim
 |none::_,[],h=>h.elim
 |some _::_,[],h=>h.elim
theorem fg.get:∀{a b:St},fg a b->∀(i:Nat) (v:V),a[i]?=some (some v)->b[i]?=some (some v)
 |[],[],_,i,v,e=>by simp at e
 |none::a,_::b,h,0,v,e=>by simp at e
 |none::a,_::b,h,i+1,v,e=>by
  rw[List.getElem?_cons_succ]at e ⊢;exact fg.get (a:=a) (b:=b) h i v e
 |some x::a,u::b,h,0,v,e=>by
  rw[List.getElem?_cons_zero]at e ⊢;rw[h.1];exact e
 |some x::a,u::b,h,i+1,v,e=>by
  rw[List.getElem?_cons_succ]at e ⊢;exact fg.get (a:=a) (b:=b) h.2 i v e
 |[],_::_,h,_,_,_=>h.elim
 |none::_,[],h,_,_,_=>h.elim
 |some _::_,[],h,_,_,_=>h.elim
noncomputable def nM (cap:List (Option Nat)) (wi:TI) (g:TG) (jA:TT) (te:TE):TE:=λσ H Q=>wi σ H λJ H1=>∃W:Nat->Nat->List V->Hp->Prop,(∃m,W 0 m [] H1)/\∀i m ys H,W i m ys H->ys.length<sizeLine/\
 ((J.stop i H/\∀D,H D=none->Q (.ref D) (upd H D (.lst ys)))\/
  (J.go i H/\∀x H',J.oh i H x H'->g x (cn cap σ) H' λdU H2=>fg (cn cap σ) dU/\jA dU H2 λb H3=>if b=true then te dU H3 λv H4=>∃m',m'<m/\W (i+1) m' (ys++[v]) H4 else ∃m',m'<m/\W (i+1) m' ys H3))
noncomputable def jx (own:Option Str) (C:Addr) (cl:List (Str×Addr)):List (Str×Addr):=match own with
 |none=>cl
 |some kx=>(kx,C+1)::cl
noncomputable def GU:Option Str->Str->Bool
 |none,_=>false
 |some kx,y=>y==kx
noncomputable def rO:Option Str->Heap->Heap
 |none,h=>h
 |some _,h=>h.push {cls:=.type "cell",data:=.cell none}
variable {h:Heap}
theorem xa(own:Option Str){b:Addr}{o:Obj}(e:h.get? b=some o):(rO own h).get? b=some o:=by
 cases own with
 |none=>exact e
 |some _=>exact get?_push_of_some _ e
variable {own:Option Str} {C:Addr} {cl:List (Str×Addr)} {y:Str}
theorem DH{c:Addr}(e:(jx own C cl).lookup y=some c):(own=some y/\c=C+1)\/cl.lookup y=some c:=by
 cases own with
 |none=>exact .inr e
 |some kx=>
  have e:((kx,C+1)::cl).lookup y=some c:=e;rw[lookup_cons]at e;by_cases h:y=kx
  ·subst h;rw[beq_self_eq_true]at e;exact .inl ⟨rfl,(Option.some.inj e).symm⟩
  ·rw[show(y==kx)=false by simpa using h]at e;exact .inr e
theorem B0{c:Addr}(h:own≠some y)(e:cl.lookup y=some c):(jx own C cl).lookup y=some c:=by
 cases own with
 |none=>exact e
 |some kx=>
  show((kx,C+1)::cl).lookup y=some c;rw[lookup_cons,show(y==kx)=false by simpa using λz=>h (by rw[z])];exact e
theorem ud(h:own=some y):(jx own C cl).lookup y=some (C+1):=by
 rw[h];show((y,C+1)::cl).lookup y=_;rw[lookup_cons,beq_self_eq_true]
theorem DI(h:GU own y=true):own=some y:=by
 cases own with
 |none=>cases h
 |some kx=>rw[show y=kx by simpa [GU]using h]
noncomputable abbrev ie (X:Cx) (scope:Scope) (own:Option Str) (cl:List (Str×Addr)) (N':List Str) (C:Addr) (aC:Shared) (aq:Hp) (ex:List Addr):Cx:=
 {prog:=X.prog,w:=X.w,K:=X.K,mg:=X.mg,base:=X.base,A:=X.A,N:=N',aC:=aC,aq:=aq,env:=compEnvC scope (jx own C cl) C X.env,outer:=X.stack,stack:=X.stack,ex:=ex,fn:=GU own,calm:=X.calm,pn:=[],xe:=λ_ _=>False}
structure vY (X:Cx) (scope:Scope) (own:Option Str) (cl:List (Str×Addr)) (N':List Str) (cap:List (Option Nat)):Prop where
 clos:closureFor scope X.env=pure cl
 cf:∀n,cellsFrom (n+1) scope.names cl=jx own n cl
 pc:∀h,pushCells h scope.names=rO own h
 kind:scope.kind=.function
 names:∀y∈scope.names,y.2=.local->scope.names.lookup y.1=some .local
 len:cap.length=N'.length
 RC:∀kx,own=some kx->cl.lookup kx=none
 sub:∀x c,cl.lookup x=some c->X.env.cells.lookup x=some c
 has:∀x,((relabel scope X.env).names.lookup x=some .cell\/(relabel scope X.env).names.lookup x=some .free)->own=some x\/∃c,cl.lookup x=some c
 cap:∀(i:Nat) (x:Str) (j:Nat),N'[i]?=some x->cap[i]?=some (some j)->X.N[j]?=some x/\oN X.env.scope x/\((relabel scope X.env).names.lookup x=some .cell\/(relabel scope X.env).names.lookup x=some .free)/\X.env.scope.names.lookup x≠some .local/\own≠some x
variable {M:Model}
theorem B5{s:Shared}{Q:Env->Shared->Prop}(cf:∀n,cellsFrom (n+1) scope.names cl=jx own n cl)(pc:∀h,pushCells h scope.names=rO own h)(h:∀kF:Env,{kF with scope:=relabel scope env}=compEnvC scope (jx own s.heap.objs.size cl) s.heap.objs.size env->kF.locals=s.heap.objs.size->Q kF {s with heap:=rO own (s.heap.push {cls:=.type "dict",data:=.dict #[]})}):
  wpAny M A (newFunctionEnv scope env.globals cl [] env.qual none .none (some env)) Q E s:=by
 simp only[newFunctionEnv,isSome_some,if_true];refine wpAny_bind (wpAny_alloc ?_);refine wpAny_bind (wpAny_layCells _ (λname kind cells=>by cases Ww:kind==NameKind.cell<;>simp[Ww]) _ _ _ _ ?_);rw[pc,show({s with heap:=s.heap.push {cls:=.type "dict",data:=.dict #[]}}:Shared).heap.objs.size=s.heap.objs.size+1 from size_push ..,cf,List.forIn_nil];exact wpAny_bind (wpAny_pure (wpAny_pure (h _ rfl rfl)))
variable {tg:Expr} {N':List Str} {jA:TT} {te:TE} {pins:List (Addr×Obj)} {bx:Shared} {fp:List Addr} {J:It}
theorem uN{cap:List (Option Nat)}{g:TG}{σ:St}{it:Addr}{tn:Nat->Heap->Prop}{Q:VK}{W:Nat->Nat->List V->Hp->Prop}{m0:Nat}{RR:Value->Addr->Result->Shared->Prop}(hc:X.calm=true)(B:vY X scope own cl N' cap)(hg:∀C aC aq ex,PG (ie X scope own cl N' C aC aq ex) tg g)(ht:∀C aC aq ex,qU (ie X scope own cl N' C aC aq ex) ifs jA)(he:∀C aC aq ex,PE (ie X scope own cl N' C aC aq ex) elt te)(I2:Inv X pins σ H2 bx)(T:Turn X.prog X.w X.K tg J fp it tn)(lF:tn 0 bx.heap)(f2:∀b∈fp,lq X pins H2 b)(w0:W 0 m0 [] H2)(turn:∀i m ys H,W i m ys H->ys.length<sizeLine/\((J.stop i H/\∀D,H D=none->Q (.ref D) (upd H D (.lst ys)))\/(J.go i H/\∀x H',J.oh i H x H'->g x (cn cap σ) H' λdU H2=>fg (cn cap σ) dU/\jA dU H2 λb H3=>if b=true then te dU H3 λv H4=>∃m',m'<m/\W (i+1) m' (ys++[v]) H4 else ∃m',m'<m/\W (i+1) m' ys H3)))(fin:∀(D C:Addr) (s4:Shared) (H':Hp) (ys:List V) (aA:List Value) (k:Nat),bx.heap.objs.size=D->D<=C->D≠C->Inv (ie X scope own cl N' C bx H2 fp) [(D,{cls:=.type "list",data:=.seq aA.toArray k})] (cn cap σ) H' s4->H' D=none->Vals ys aA->ys.length<sizeLine->(∀D,H' D=none->Q (.ref D) (upd H' D (.lst ys)))->RR (.ref D) C (.ok .next) s4):
  wpAny (model X.prog X.w) X.A (newList []) (λacc hJ=>wpAny (model X.prog X.w) X.A (newFunctionEnv scope X.env.globals cl [] X.env.qual none .none (some X.env)) (λkF vi=>codeAny (model X.prog X.w) X.A (.compStart (.ListComp elt [⟨tg,iter,ifs,0⟩] scope pos) 0 (.ref it) acc {kF with scope:=relabel scope X.env}) (RR acc kF.locals) vi) E hJ) E bx:=by
 refine wpAny_newObj_type (B5 B.cf B.pc λkF Eu uC=>?_);rw[Eu,uC];dsimp only;generalize zA:bx.heap.push {cls:=.type "list",dict:=none,data:=.seq ([]:List Value).toArray}=HH;have hC:HH.objs.size=bx.heap.objs.size+1:=by rw[<- zA,size_push]
 have Ob:bx.heap.objs.size≠HH.objs.size:=by rw[hC];exact ne_of_lt (Nat.lt_succ_self _)
 generalize Er:rO own (HH.push {cls:=.type "dict",data:=.dict #[]})=fN;have sW:∀b o,(HH.push {cls:=.type "dict",data:=.dict #[]}).get? b=some o->fN.get? b=some o:=λb o e=>by rw[<- Er];exact xa own e
 have old:∀b o,bx.heap.get? b=some o->fN.get? b=some o:=λb o e=>sW b o (get?_push_of_some _ (by rw[<- zA];exact get?_push_of_some _ e));have Ho:fN.get? bx.heap.objs.size=some {cls:=.type "list",data:=.seq ([]:List Value).toArray}:=sW _ _ (get?_push_of_some _ (by rw[<- zA];exact get?_push_size _ rfl));have zq:fN.Ns HH.objs.size (λ_=>none):=(Ns.new HH (.type "dict")).keeps sW;have rL:∀y,own=some y->fN.get? (HH.objs.size+1)=some {cls:=.type "cell",data:=.cell none}:=λy hy=>by
  rw[<- Er,hy,show HH.objs.size+1=(HH.push {cls:=.type "dict",data:=.dict #[]}).objs.size from(size_push ..).symm];exact get?_push_size _ rfl
 have fW:bx.heap.objs.size<=HH.objs.size:=by rw[hC];exact le_succ _
 generalize hD:bx.heap.objs.size=D at *;generalize X5:HH.objs.size=C at *

 have uG:∀b∈fp,b<D:=λb hb=>by
  obtain⟨o,e,_⟩:=T.obj _ _ lF b hb;rw[<- hD];exact lt_size e
 have pK:∀x c,cl.lookup x=some c->c<D:=λx c e=>by
  obtain⟨v,q⟩:=I2.cell x c (B.sub x c e);rw[<- hD];exact q.lt
 have lk:∀y c,(jx own C cl).lookup y=some c->(own=some y/\c=C+1)\/cl.lookup y=some c:=λy c e=>DH e;have E8:∀y c,own≠some y->cl.lookup y=some c->(jx own C cl).lookup y=some c:=λy c h e=>B0 h e;have Cr:∀y c,(jx own C cl).lookup y=some c->c≠D:=λy c e=>by
  rcases lk y c e with⟨_,z⟩|z
  ·rw[z];exact ne_of_gt (Nat.lt_succ_of_le fW)
  ·exact ne_of_lt (pK y c z)
 have Oo:∀b∈frs X.stack,b∈X.env.locals::X.fs:=λb hb=>I2.tR b hb;have ok:(ie X scope own cl N' C bx H2 fp).Ok:=by
  refine⟨I2.mod,B.kind,I2.ok.glob,I2.ok.blt,?_,?_,?_,?_,I2.ok.hd,I2.ok.frames,.inl rfl,λb hb=>⟨?_,λx c e z=>?_⟩,I2.bs,le_trans I2.ok.xb I2.sz,λb o e hb=>?_,λb hb hf=>?_,I2.stack,I2.rj⟩
  ·show bx.heap.objs.size<=C;rw[hD];exact fW
  ·intro x y c h1 h2;rcases lk x c h1 with⟨a1,b1⟩|z1<;>rcases lk y c h2 with⟨a2,b2⟩|z2
   ·rw[a1]at a2;exact Option.some.inj a2
   ·have:=pK y c z2;exact absurd (lt_of_lt_of_le this fW) (by rw[b1];exact not_lt.mpr (le_succ _))
   ·have:=pK x c z1;exact absurd (lt_of_lt_of_le this fW) (by rw[b2];exact not_lt.mpr (le_succ _))
   ·exact I2.ok.inj x y c (B.sub x c z1) (B.sub y c z2)
  ·intro y hy;rcases B.has y hy with h|⟨c,e⟩
   ·exact⟨C+1,ud h⟩
   ·by_cases h:own=some y
    ·exact⟨C+1,ud h⟩
    ·exact⟨c,E8 y c h e⟩
  ·intro y c hf e;rcases lk y c e with⟨_,z⟩|z
   ·rw[z,hD];exact le_succ_of_le fW
   ·rw[B.RC y (DI hf)]at z;cases z
  ·exact ne_of_lt (lt_of_lt_of_le (uG b hb) fW)
  ·rcases lk x c e with⟨_,q⟩|q
   ·rw[q]at z;exact ne_of_lt (lt_of_lt_of_le (uG b hb) (le_succ_of_le fW)) z.symm
   ·exact(f2 b hb).2.2.2.2.1 x c (B.sub x c q) z
  ·have h1:=f2 b hb;rcases h1.2.2.2.1 with z|z
   ·exact I2.ok.vE b o e z
   ·have h2:=(I2.ok.bs b o e).1;exact absurd (lt_of_lt_of_le (lt_size h2) z) (lt_irrefl _)
  ·rcases mem_cons.mp (Oo b hf)with z|z
   ·exact(f2 b hb).2.1 z
   ·exact(f2 b hb).2.2.1 z
 have nG:∀a,D<=a->H2 a=none:=λa ha=>I2.hok.fresh (by rw[hD];exact ha);have I4:Inv (ie X scope own cl N' C bx H2 fp) [] (cn cap σ) H2 {bx with heap:=fN}:=by
  refine⟨ok,rfl,I2.bare,Un.kept old,⟨_,zq,λi x v e1 e2 e3=>?_⟩,λx c e=>?_,nG C fW,λx c e=>?_,λp hp=>absurd (show p∈([]:List (Addr×Obj))from hp) (by simp),I2.hok.kept old,?_⟩
  ·have OH:N'[i]?=some x:=e1;unfold cn at e2;rw[getElem?_map]at e2;cases sZ:cap[i]? with
   |none=>rw[sZ]at e2;cases e2
   |some o=>
    rw[sZ]at e2;cases o with
    |none=>cases e2
    |some j=>
     obtain⟨hN,hv,hk,Bd,Be⟩:=B.cap i x j OH sZ;have e4:σ[j]?=some (some v):=by
      have e5:some ((σ[j]?).join)=some (some v):=e2;cases hq:σ[j]? with
      |none=>rw[hq]at e5;cases e5
      |some q=>rw[hq]at e5;exact e5
     obtain⟨m,hn,hl⟩:=I2.loc;obtain⟨u,r,l⟩:=hl j x v hN e4 hv;refine⟨u,r,.inr ⟨hk,?_⟩⟩;rcases l with⟨k,_⟩|⟨k,c,uC,o,ho,hd⟩
     ·exact absurd k Bd
     ·obtain⟨c',wO⟩:=(B.has x hk).resolve_left Be;have e6:=B.sub x c' wO;rw[uC]at e6;cases e6;exact⟨c,E8 x c Be wO,o,old c o ho,hd⟩
  ·rcases lk x c e with⟨q,z⟩|z
   ·rw[z];exact⟨none,_,rL x q,rfl⟩
   ·obtain⟨v,o,ho,hd⟩:=I2.cell x c (B.sub x c z);exact⟨v,o,old c o ho,hd⟩
  ·rcases lk x c e with⟨_,z⟩|z
   ·rw[z];exact nG _ (le_succ_of_le fW)
   ·exact I2.jq x c (B.sub x c z)
  ·show(cn cap σ).length=N'.length;unfold cn;rw[length_map];exact B.len
 have l9:D≠C:=Ob;have OQ:D∉frs X.stack:=λhb=>by
  obtain⟨_,o,ho,_⟩:=I2.stack.mem hb;have:=lt_size ho;rw[hD]at this;exact absurd this (lt_irrefl _)
 have mX:∀{P:List (Addr×Obj)} {H':Hp},(∀p∈P,p.1=D)->(∀b∈fp,H' b=none)->∀b∈fp,lq (ie X scope own cl N' C bx H2 fp) P H' b:=λhP hn b hb=>
  ⟨hn b hb,(ok.Bs b hb).1,ok.vL b hb,.inl hb,(ok.Bs b hb).2,λp hp z=>by
   have nA:p∈_:=hp;rw[hP p (by simpa using nA)]at z;exact ne_of_gt (uG b hb) z⟩
 have loop:∀hJ:Shared,hJ={bx with heap:=fN}->
   codeAny (model X.prog X.w) X.A (.compLoop (.ListComp elt [⟨tg,iter,ifs,0⟩] scope pos) 0 (.ref it) (.ref D) (compEnvC scope (jx own C cl) C X.env)) (RR (.ref D) C) hJ:=by
  rintro hJ rfl;refine qK (λn s'=>∃i ys aA H' k,Inv (ie X scope own cl N' C bx H2 fp) [] (cn cap σ) H' s'/\tn i s'.heap/\(∀b∈fp,H' b=none)/\H' D=none/\s'.heap.get? D=some {cls:=.type "list",data:=.seq (aA:List Value).toArray k}/\Vals ys aA/\W i n ys H') ?_ m0
   ⟨0,[],[],H2,0,I4,T.keep _ _ _ lF λb _ o e=>old b o e,λb hb=>(f2 b hb).1,nG D (le_refl _),Ho,.nil,w0⟩
  rintro n s' ⟨i,ys,aA,H',k,Ia,CW,EC,iq,Oa,rv,wa⟩;obtain⟨hsz,tu⟩:=turn i n ys H' wa;have Ib:Inv (ie X scope own cl N' C bx H2 fp) [(D,{cls:=.type "list",data:=.seq aA.toArray k})] (cn cap σ) H' s':=Ia.jZ λp hp=>by
   have nA:p=(D,{cls:=.type "list",data:=.seq aA.toArray k}):=by simpa using hp
   subst nA;exact⟨Oa,iq,l9,OQ,λv z=>nomatch z⟩
  have zy:∀p∈[((D,{cls:=.type "list",data:=.seq aA.toArray k}):Addr×Obj)],p.1=D:=λp hp=>by
   have nA:p=(D,{cls:=.type "list",data:=.seq aA.toArray k}):=by simpa using hp
   rw[nA]
  rcases tu with⟨stop,qn⟩|⟨go,step⟩
  ·refine wpAny_mono (T.done (ie X scope own cl N' C bx H2 fp) rfl rfl rfl hc i _ s' (cn cap σ) H' (λ_ _=>False) Ib (mX zy EC) CW stop) (λr s4 zo=>?_) λ_ _ z=>z.elim;obtain⟨hr,Ic⟩:=zo;subst hr;exact fin D C s4 H' ys aA k rfl fW l9 Ic iq rv hsz qn
  ·refine wpAny_mono (T.item (ie X scope own cl N' C bx H2 fp) rfl rfl rfl hc i _ s' (cn cap σ) H' (λ_ _=>False) Ib (mX zy EC) CW go) (λr s4 zo=>?_) λ_ _ z=>z.elim;obtain⟨u,hr,h4⟩:=zo;subst hr;refine wpAny_mono h4 (λ_ s5 h5=>?_) λ_ _ z=>z.elim;obtain⟨x,H5,I5,r5,y5,q9,ED⟩:=h5;have FZ:=I5.pinned (mX zy ED) (T.obj _ _ q9);refine wpAny_mono (hg C bx H2 fp _ s5 (cn cap σ) H5 x u _ FZ r5 (step x H5 y5)) (λ_ s6 h6=>?_) λ_ _ z=>z.elim;obtain⟨tK,H6,I6,uo,q6⟩:=h6;refine wpAny_mono (ht C bx H2 fp _ s6 tK H6 _ I6 q6) (λb s7 h7=>?_) λ_ _ z=>z.elim;obtain⟨H7,I7,q7⟩:=h7

   have back:∀{bD:St} {qV:Hp} {jB:Shared},Inv (ie X scope own cl N' C bx H2 fp) ([((D,{cls:=.type "list",data:=.seq aA.toArray k}):Addr×Obj)]++oz fp s5.heap) bD qV jB->
     jB.heap.get? D=some {cls:=.type "list",data:=.seq aA.toArray k}/\qV D=none/\(∀b∈fp,qV b=none)/\tn (i+1) jB.heap:=fun{bD qV jB} Iz=>by
    have pz:=λp hp=>Iz.pin p (mem_append_right _ hp);have pD:=pz (D,{cls:=.type "list",data:=.seq aA.toArray k}) (mem_append_left _ mem_cons_self);refine⟨pD.1,pD.2.1,λb hb=>?_,T.keep _ _ _ q9 λb hb o e=>(pz (b,o) (mem_append_right _ (jk hb e))).1⟩;obtain⟨o,e,_⟩:=T.obj _ _ q9 b hb;exact(pz (b,o) (mem_append_right _ (jk hb e))).2.1
   have hits:aA.length=ys.length:=rv.length.symm;cases b with
   |false=>
    rw[if_neg Bool.false_ne_true]at q7 ⊢;obtain⟨m',hm,w7⟩:=q7;obtain⟨b1,b2,b3,b4⟩:=back I7;exact⟨m',hm,i+1,ys,aA,H7,k,(I7.jZ (pins':=[]) λp hp=>absurd hp (by simp)).weak uo.len uo.get,b4,b3,b2,b1,rv,w7⟩
   |true=>
    rw[if_pos rfl]at q7 ⊢;refine wpAny_mono (he C bx H2 fp _ s7 tK H7 _ I7 q7) (λy s8 h8=>?_) λ_ _ z=>z.elim;obtain⟨v,H8,I8,r8,m',hm,w8⟩:=h8;obtain⟨b1,b2,b3,b4⟩:=back I8;refine wpAny_list_append_plain (l:=D) (items:=aA.toArray) (hsz:=by rw[size_toArray];omega) ⟨k,b1⟩ λh' fV kC=>?_;obtain⟨k',e'⟩:=fV;have I9:Inv (ie X scope own cl N' C bx H2 fp) [] tK H8 {s8 with heap:=h',toks:=s8.toks}:=(I8.jZ (pins':=[]) λp hp=>absurd hp (by simp)).turned (it:=D) (λb o hb e=>(kC.2 b hb).trans e) b2 l9 (.inr (Nat.le_of_eq hD))
     (λx c e=>Cr x c e) (λp hp=>absurd (show p∈([]:List (Addr×Obj))from hp) (by simp))
    refine⟨m',hm,i+1,ys++[v],aA++[y],H8,k',I9.weak uo.len uo.get,T.keep _ _ _ b4 λb hb o e=>(kC.2 b (ne_of_lt (uG b hb))).trans e,b3,b2,?_,rv.append (.cons r8 .nil),w8⟩;have EM:h'.get? D=_:=e';rw[List.push_toArray]at EM;exact EM
 exact codeAny_compStart_list (loop _ rfl) (T.self X.A 0 _ _ _ (T.keep _ _ _ lF λb _ o e=>old b o e) (loop _ rfl))
variable {wi:TI}
theorem GQ{cap:List (Option Nat)}{g:TG}(hc:X.calm=true)(B:vY X scope own cl N' cap)(hi:PI X tg iter wi)(hg:∀C aC aq ex,PG (ie X scope own cl N' C aC aq ex) tg g)(ht:∀C aC aq ex,qU (ie X scope own cl N' C aC aq ex) ifs jA)(he:∀C aC aq ex,PE (ie X scope own cl N' C aC aq ex) elt te)(hs:∀x,foldedSetIterable iter X.env x=pure x:=by intro _;rfl):PE X (.ListComp elt [⟨tg,iter,ifs,0⟩] scope pos) (nM cap wi g jA te):=by
 intro pins s σ H Q I h;rw[eval_ListComp];refine wpAny_comprehension_free (use:=none) rfl hs B.clos B.kind B.names (bP (hi pins s σ H _ I h) λxv bX fN=>bP fN λEb bx nz=>?_);obtain⟨it,fp,tn,J,H2,e,I2,T,lF,f2,W,⟨m0,w0⟩,turn⟩:=nz;subst e;refine uN (RR:=λacc C=>compPost (model X.prog X.w) X.A X.xe none (EP X pins σ Q) acc C) hc B hg ht he I2 T lF f2 w0 turn λD C s4 H' ys aA k hD fW l9 Ic iq rv hsz qn=>?_;obtain⟨m,hn,_⟩:=Ic.loc;refine⟨m,hn,λh' kC=>?_⟩;have zB:s4.heap.get? D=some {cls:=.type "list",data:=.seq aA.toArray k}:=(Ic.pin (D,_) (by simp)).1;have zC:H' C=none:=Ic.free;have un:Un (frs X.stack) fp H2 (upd H' D (.lst ys)) bx.heap h':=by
  have bs:=Ic.base;have nv:∀b o,bx.heap.get? b=some o->h'.get? b=s4.heap.get? b:=λb o e=>by
   have:b<D:=by rw[<- hD];exact lt_size e
   exact kC.2 b (ne_of_lt (lt_of_lt_of_le this fW))
  refine⟨λb o e n h1 h2=>(nv b o e).trans (bs.keep b o e n h1 h2),λb o e n h1 h2=>?_,λb o e n h2=>?_,λb o e h2=>?_,λb xs e=>?_,λb o u e=>?_,λb ps e=>?_⟩
  ·obtain⟨sl,q⟩:=bs.slot b o e n h1 h2;exact⟨sl,(nv b o e).trans q⟩
  ·have:b<D:=by rw[<- hD];exact lt_size e
   rw[bF (ne_of_lt this)];exact bs.free b o e n h2
  ·obtain⟨o',q⟩:=bs.there b o e h2;exact⟨o',(nv b o e).trans q⟩
  ·have q:=bs.tups b xs e;rw[bF (aU q iq)];exact q
  ·have q:=bs.frzs b o u e;rw[bF (aU q iq)];exact q
  ·obtain⟨more,q⟩:=bs.tbls b ps e;exact⟨more,by rw[bF (aU q iq)];exact q⟩
 have hok:gA X.prog X.w (upd H' D (.lst ys)) h':=λb u e=>by
  by_cases hb:b=D
  ·subst hb;rw[d5]at e;cases e;exact⟨le_of_lt hsz,aA,k,rv,(kC.2 _ (by show _≠C;exact l9)).trans zB⟩
  ·rw[bF hb]at e;refine(Ic.hok b u e).mW (λc v uD q=>(kC.2 c ?_).trans q) (λc q=>by rw[bF (aU q iq)];exact q) λc xs q=>by rw[bF (aU q iq)];exact q
   rcases uD with z|z
   ·rw[z];exact aU e zC
   ·exact aU z zC
 have If:=I2.uP (s':={s4 with heap:=h'}) (H':=upd H' D (.lst ys)) (ch:=fp) Ic.os un hok Ic.bare λb hb=>⟨(f2 b hb).2.2.2.1,(f2 b hb).2.1,(f2 b hb).2.2.2.2.1,(f2 b hb).2.2.2.2.2⟩;exact⟨.ref D,_,If,rfl,qn D iq⟩
theorem vF:∀{names:List (Str×NameKind)},(∀y∈names,y.2≠.cell)->(∀n cl,cellsFrom n names cl=cl)/\∀h,pushCells h names=h
 |[],_=>⟨λ_ _=>rfl,λ_=>rfl⟩
 |(x,k)::r,h=>by
  have hk:(k==NameKind.cell)=false:=by simpa using h (x,k) mem_cons_self
  obtain⟨h1,h2⟩:=vF (names:=r) λy hy=>h y (mem_cons_of_mem _ hy);refine⟨λn cl=>?_,λh=>?_⟩
  ·unfold cellsFrom;rw[if_neg (by rw[hk];exact Bool.false_ne_true),h1]
  ·unfold pushCells;rw[if_neg (by rw[hk];exact Bool.false_ne_true),h2]
theorem pU.g{cap:List (Option Nat)}(B:pU X scope cl N' cap):vY X scope none cl N' cap:=
 ⟨B.clos,λn=>(vF B.cells).1 _ _,(vF B.cells).2,B.kind,B.names,B.len,(λ_ z=>by cases z),B.sub,λx h=>.inr (B.has x h),λi x j h1 h2=>let ⟨a,b,c,d⟩:=B.cap i x j h1 h2;⟨a,b,c,d,(λz=>by cases z)⟩⟩
theorem vA{cap:List (Option Nat)}{g:TG}(hc:X.calm=true)(B:pU X scope cl N' cap)(hi:PI X tg iter wi)(hg:∀C aC aq ex,PG (kX X scope cl N' C aC aq ex) tg g)(ht:∀C aC aq ex,qU (kX X scope cl N' C aC aq ex) ifs jA)(he:∀C aC aq ex,PE (kX X scope cl N' C aC aq ex) elt te)(hs:∀x,foldedSetIterable iter X.env x=pure x:=by intro _;rfl):PE X (.ListComp elt [⟨tg,iter,ifs,0⟩] scope pos) (nM cap wi g jA te):=GQ (own:=none) hc B.g hi hg ht he hs
end
end L2
namespace L3
noncomputable section
open PySem PySem.Spec PyProof.Rows L2
open PySem.W (Dat kqdOk kqdP kqdPs kqd_lay kqd_eqv)
noncomputable abbrev Fg:=PySem.W.Frag
noncomputable abbrev eX:=Addr->Prop
noncomputable abbrev ay:=List (Option Dat)
def CC (K:Fg) (H:Hp) (Av:eX) (a:Addr) (xs:List V):Prop:=
 (Rd H a (.tup xs)/\¬Av a)\/∃(o:Obj) (aA:Array Value) (n:Nat),K.lookup a=some o/\o.cls=.type "tuple"/\o.data=.seq aA n/\aA.size<=sizeLine/\Vals xs aA.toList
def CD (K:Fg) (H:Hp) (Av:eX) (a:Addr) (xs:List V):Prop:=
 (Rd H a (.lst xs)/\¬Av a)\/∃(o:Obj) (aA:Array Value) (n:Nat),K.lookup a=some o/\o.cls=.type "list"/\o.dict=none/\o.data=.seq aA n/\aA.size<=sizeLine/\Vals xs aA.toList
variable {H:Hp} {Av:eX} {a:Addr} {xs:List V}
theorem CC.sq{K:Fg}(h:CC K H Av a xs):jI K H a xs:=h.elim (λz=>.inl z.1) .inr
theorem CD.sq{K:Fg}(h:CD K H Av a xs):fF K H a xs:=h.elim (λz=>.inl z.1) .inr
mutual
inductive aS (K:Fg) (H:Hp) (Av:eX):V->Dat->Prop
 |bU:aS K H Av .bU .none
 |bl (b:Bool):aS K H Av (.bl b) (.bool b)
 |int (i:Int):aS K H Av (.int i) (.int i)
 |str (x:Str):aS K H Av (.str x) (.str x)
 |tup {a:Addr} {xs:List V} {ds:List Dat}:CC K H Av a xs->aF K H Av xs ds->aS K H Av (.ref a) (.tuple ds)
 |lst {a:Addr} {xs:List V} {ds:List Dat}:CD K H Av a xs->aF K H Av xs ds->aS K H Av (.ref a) (.list ds)
inductive aF (K:Fg) (H:Hp) (Av:eX):List V->List Dat->Prop
 |nil:aF K H Av [] []
 |cons {v:V} {vs:List V} {d:Dat} {ds:List Dat}:aS K H Av v d->aF K H Av vs ds->aF K H Av (v::vs) (d::ds)
end
variable {H':Hp} {lX:eX}
def tI (H:Hp) (Av:eX) (H':Hp) (lX:eX):Prop:=∀b o,H b=some o->¬Av b->H' b=some o/\¬lX b
theorem AM(k:tI H Av H' lX){u:HO}(h:Rd H a u/\¬Av a):Rd H' a u/\¬lX a:=by
 obtain⟨h,n⟩:=h;rcases h with h|⟨o,h⟩
 ·exact⟨.inl (k _ _ h n).1,(k _ _ h n).2⟩
 ·exact⟨.inr ⟨o,(k _ _ h n).1⟩,(k _ _ h n).2⟩
variable {K:Fg}
mutual
theorem aS.mono(k:tI H Av H' lX):∀{v:V} {d:Dat},aS K H Av v d->aS K H' lX v d
 |_,_,.bU=>.bU
 |_,_,.bl b=>.bl b
 |_,_,.int i=>.int i
 |_,_,.str x=>.str x
 |_,_,.tup h r=>.tup (h.elim (λz=>.inl (AM k z)) .inr) (aF.mono k r)
 |_,_,.lst h r=>.lst (h.elim (λz=>.inl (AM k z)) .inr) (aF.mono k r)
theorem aF.mono (k:tI H Av H' lX):∀{vs:List V} {ds:List Dat},aF K H Av vs ds->aF K H' lX vs ds
 |_,_,.nil=>.nil
 |_,_,.cons h r=>.cons (aS.mono k h) (aF.mono k r)
end
theorem wI(e:aO H H'):tI H Av H' Av:=λb o h n=>⟨e b o h,n⟩
theorem wH(w:∀a,lX a->Av a):tI H Av H lX:=λb o h n=>⟨h,λz=>n (w _ z)⟩
theorem aS.same(e:aO H H'){v:V}{d:Dat}(r:aS K H Av v d):aS K H' Av v d:=r.mono (wI e)
theorem aF.same(e:aO H H'){v:List V}{d:List Dat}(r:aF K H Av v d):aF K H' Av v d:=r.mono (wI e)
theorem aS.weak(w:∀a,lX a->Av a){v:V}{d:Dat}(r:aS K H Av v d):aS K H lX v d:=r.mono (wH w)
theorem aF.weak(w:∀a,lX a->Av a){v:List V}{d:List Dat}(r:aF K H Av v d):aF K H lX v d:=r.mono (wH w)
theorem aF.length:∀{vs:List V} {ds:List Dat},aF K H Av vs ds->vs.length=ds.length
 |_,_,.nil=>rfl
 |_,_,.cons _ r=>congrArg (· + 1) (aF.length r)
theorem aF.get:∀{vs:List V} {ds:List Dat} {i:Nat} {d:Dat},aF K H Av vs ds->ds[i]?=some d->∃v,vs[i]?=some v/\aS K H Av v d
 |_,_,_,_,.nil,e=>by simp at e
 |_,_,0,_,.cons h _,e=>by simp at e;subst e;exact⟨_,rfl,h⟩
 |_,_,i+1,d,.cons _ r,e=>by
  obtain⟨v,h1,h2⟩:=aF.get (i:=i) (d:=d) r (by simpa using e);exact⟨v,by simpa using h1,h2⟩
theorem aF.append:∀{vs ws:List V} {ds es:List Dat},aF K H Av vs ds->aF K H Av ws es->aF K H Av (vs++ws) (ds++es)
 |_,_,_,_,.nil,s=>s
 |_,_,_,_,.cons h r,s=>.cons h (aF.append r s)
theorem aF.take:∀{vs:List V} {ds:List Dat} (n:Nat),aF K H Av vs ds->aF K H Av (vs.take n) (ds.take n)
 |_,_,0,_=>.nil
 |_,_,_+1,.nil=>.nil
 |_,_,n+1,.cons r t=>.cons r (aF.take n t)
theorem aF.drop:∀{vs:List V} {ds:List Dat} (n:Nat),aF K H Av vs ds->aF K H Av (vs.drop n) (ds.drop n)
 |_,_,0,r=>r
 |_,_,_+1,.nil=>.nil
 |_,_,n+1,.cons _ t=>aF.drop n t
theorem aF.ints(ns:List Int):aF K H Av (ns.map V.int) (ns.map Dat.int):=by
 induction ns with
 |nil=>exact .nil
 |cons n ns ih=>exact .cons (.int n) ih
variable {p:Addr}
theorem cb(h:H p=none)(o:HO):aO H (upd H p o):=λb u q=>by rw[bF (aU q h)];exact q
def ij (H:Hp) (Av:eX):Prop:=∀a,Av a->∃o,H a=some o
theorem ij.same(e:aO H H')(h:ij H Av):ij H' Av:=λa z=>let ⟨o,q⟩:=h a z;⟨o,e a o q⟩
theorem ij.new(h:ij H Av)(e:H p=none):¬Av p:=λz=>by
 obtain⟨o,q⟩:=h p z;rw[e]at q;cases q
variable {ds:List Dat}
theorem aS.C4(h:ij H Av)(e:H p=none)(r:aF K H Av xs ds):aS K (upd H p (.tup xs)) Av (.ref p) (.tuple ds):=
 .tup (.inl ⟨.inl d5,h.new e⟩) (r.same (cb e _))
theorem aS.pw(h:ij H Av)(e:H p=none)(r:aF K H Av xs ds):aS K (upd H p (.lst xs)) Av (.ref p) (.list ds):=
 .lst (.inl ⟨.inl d5,h.new e⟩) (r.same (cb e _))
def fD (K:Fg) (H:Hp) (Av:eX) (σ:L2.St) (ρ:ay):Prop:=∀(i:Nat) (d:Dat),ρ[i]?=some (some d)->∃v,σ[i]?=some (some v)/\aS K H Av v d
variable {σ:L2.St} {ρ:ay}
theorem fD.same(e:aO H H')(h:fD K H Av σ ρ):fD K H' Av σ ρ:=λi d q=>let ⟨v,a,r⟩:=h i d q;⟨v,a,r.same e⟩
noncomputable def tF (K:Fg) (f:ay->Option Dat):TE:=λσ H Q=>∃Av ρ d,ij H Av/\fD K H Av σ ρ/\f ρ=some d/\∀v H',aO H H'->aS K H' Av v d->Q v H'
noncomputable def jT (K:Fg) (f:ay->Option Bool):TT:=λσ H Q=>∃Av ρ b,ij H Av/\fD K H Av σ ρ/\f ρ=some b/\∀H',aO H H'->Q b H'
noncomputable def AB (K:Fg) (f:ay->Option (List Dat)):TA:=λσ H Q=>∃Av ρ ds,ij H Av/\fD K H Av σ ρ/\f ρ=some ds/\∀vs H',aO H H'->aF K H' Av vs ds->Q vs H'
abbrev PF (X:Cx) (e:Expr) (f:ay->Option Dat):Prop:=PE X e (tF X.K f)
abbrev JH (X:Cx) (e:Expr) (f:ay->Option Bool):Prop:=PT X e (jT X.K f)
abbrev FX (X:Cx) (e:List Expr) (f:ay->Option (List Dat)):Prop:=PA X e (AB X.K f)
variable {X:Cx} {e:Expr}
theorem bA{t t':TE}(h:PE X e t)(m:∀σ H Q,t' σ H Q->t σ H Q):PE X e t':=λpins s σ H Q I q=>h pins s σ H Q I (m σ H Q q)
theorem ox{t t':TT}(h:PT X e t)(m:∀σ H Q,t' σ H Q->t σ H Q):PT X e t':=λpins s σ H Q I q=>h pins s σ H Q I (m σ H Q q)
theorem AQ{t t':TT}(h:PW X e t)(m:∀σ H Q,t' σ H Q->t σ H Q):PW X e t':=λw pins s σ H Q I q=>h w pins s σ H Q I (m σ H Q q)
variable {es:List Expr}
theorem AZ{t t':TA}(h:PA X es t)(m:∀σ H Q,t' σ H Q->t σ H Q):PA X es t':=λp pins s σ H Q I q=>h p pins s σ H Q I (m σ H Q q)
noncomputable def aj (i:Nat):ay->Option Dat:=λρ=>(ρ[i]?).join
noncomputable def fC (d:Dat):ay->Option Dat:=λ_=>some d
variable {d:Dat}
theorem join_some{o:Option (Option Dat)}(h:o.join=some d):o=some (some d):=by
 cases o with
 |none=>cases h
 |some q=>exact congrArg some h
variable {fb fa:ay->Option Dat} {a b:Expr}
noncomputable def f2 (g:Dat->Dat->Option Dat) (fa fb:ay->Option Dat):ay->Option Dat:=λρ=>(fa ρ).bind λa=>(fb ρ).bind λb=>g a b
def kJ (K:Fg) (r:R2) (g:Dat->Dat->Option Dat):Prop:=∀(H:Hp) (Av:eX) (x y:V) (dx dy d:Dat) (Q:VK),ij H Av->aS K H Av x dx->aS K H Av y dy->g dx dy=some d->(∀v H',aO H H'->aS K H' Av v d->Q v H')->r x y H Q
variable {α:Type}
theorem bind_some{β:Type}{o:Option α}{g:α->Option β}{b:β}(h:o.bind g=some b):∃a,o=some a/\g a=some b:=by
 cases o with
 |none=>cases h
 |some a=>exact⟨a,rfl,h⟩
theorem qZ{K:Fg}{r:R2}{g:Dat->Dat->Option Dat}(hr:kJ K r g):∀σ H Q,tF K (f2 g fa fb) σ H Q->yc r (tF K fa) (tF K fb) σ H Q:=by
 rintro σ H Q ⟨Av,ρ,d,hA,hE,hf,q⟩;obtain⟨dx,e1,hf⟩:=bind_some hf;obtain⟨dy,e2,hf⟩:=bind_some hf;refine⟨Av,ρ,dx,hA,hE,e1,λx H1 s1 r1=>⟨Av,ρ,dy,hA.same s1,hE.same s1,e2,λy H2 s2 r2=>?_⟩⟩;exact hr H2 Av x y dx dy d Q (hA.same (s1.trans s2)) (r1.same s2) r2 hf λv H' s3 r3=>q v H' (s1.trans (s2.trans s3)) r3
variable {pos:Pos}
theorem kA{op:Operator}{r:R2}{g:Dat->Dat->Option Dat}(ho:dF X (binaryOp op) r)(hd:kJ X.K r g)(ha:PF X a fa)(hb:PF X b fb):PF X (.BinOp a op b pos) (f2 g fa fb):=bA (rG ho ha hb) (qZ hd)
theorem n9{op:CmpOp}{r:R2}{g:Dat->Dat->Option Dat}(ho:dF X (compareOp op) r)(hd:kJ X.K r g)(ha:PF X a fa)(hb:PF X b fb)(hm:behindInMarks op b=false):PF X (.Compare a [op] [b] pos) (f2 g fa fb):=bA (KA ho ha hb hm) (qZ hd)
noncomputable def oK:Dat->Option Bool
 | .bool b=>some b
 |_=>none
variable {f:ay->Option Dat}
noncomputable def aZ (f:ay->Option Dat):ay->Option Bool:=λρ=>(f ρ).bind oK
theorem pL{b:Bool}(h:oK d=some b):d=.bool b:=by
 cases d<;>first|(cases h;done)|(simp only[oK,Option.some.injEq]at h;rw[h])
variable {v:V}
theorem aS.kI{K:Fg}{b:Bool}(h:aS K H Av v (.bool b)):v=.bl b:=by cases h;rfl
theorem aS.fH{K:Fg}{b:Int}(h:aS K H Av v (.int b)):v=.int b:=by cases h;rfl
theorem aS.cy{K:Fg}{b:Str}(h:aS K H Av v (.str b)):v=.str b:=by cases h;rfl
theorem aS.Qw{K:Fg}(h:aS K H Av v .none):v=.bU:=by cases h;rfl
theorem aS.gI{K:Fg}(h:aS K H Av v (.tuple ds)):∃a xs,v=.ref a/\CC K H Av a xs/\aF K H Av xs ds:=by cases h with|tup h r=>exact⟨_,_,rfl,h,r⟩
theorem aS.eZ{K:Fg}(h:aS K H Av v (.list ds)):∃a xs,v=.ref a/\CD K H Av a xs/\aF K H Av xs ds:=by cases h with|lst h r=>exact⟨_,_,rfl,h,r⟩
theorem Az{K:Fg}{t:TE}(m:∀σ H Q,tF K f σ H Q->t σ H Q):∀σ H Q,jT K (aZ f) σ H Q->BQ t σ H Q:=by
 rintro σ H Q ⟨Av,ρ,b,hA,hE,hf,q⟩;obtain⟨d,e1,hf⟩:=bind_some hf;have e2:=pL hf;subst e2;exact m σ H _ ⟨Av,ρ,.bool b,hA,hE,e1,λv H' s r=>⟨b,r.kI,q H' s⟩⟩
theorem i5{op:CmpOp}{r:R2}{g:Dat->Dat->Option Dat}(ho:dF X (compareOp op) r)(hd:kJ X.K r g)(ha:PF X a fa)(hb:PF X b fb)(hm:behindInMarks op b=false):JH X (.Compare a [op] [b] pos) (aZ (f2 g fa fb)):=ox (AR ho ha hb hm) (Az (qZ hd))
noncomputable def vg:Dat->Option Bool
 | .none=>some false
 | .bool b=>some b
 | .int i=>some (i !=0)
 | .str y=>if y.length<=sizeLine then some ((y.length:Int) !=0)else none
 | .list ds=>some (!ds.isEmpty)
 | .tuple ds=>some (!ds.isEmpty)
 |_=>none
noncomputable def ja (f:ay->Option Dat):ay->Option Bool:=λρ=>(f ρ).bind vg
variable {vs:List V}
theorem aF.emp{K:Fg}(h:aF K H Av vs ds):ds.isEmpty=vs.isEmpty:=by cases h<;>rfl
theorem LV{K:Fg}{k:Bool}(r:aS K H Av v d)(h:vg d=some k):HY K v H k:=by
 cases r with
 |bU=>cases h;exact rfl
 |bl b=>cases h;exact rfl
 |int i=>cases h;exact rfl
 |str x=>
  simp only[vg]at h;split at h
  ·rename_i hz;cases h;exact⟨hz,rfl⟩
  ·cases h
 |tup hq rs=>cases h;exact .inr (.inl ⟨_,hq.sq,by rw[rs.emp]⟩)
 |lst hq rs=>cases h;exact .inl ⟨_,hq.sq,by rw[rs.emp]⟩
variable {c:Expr}
noncomputable def kD (f g:ay->Option Bool):ay->Option Bool:=λρ=>(f ρ).bind λc=>if c=true then g ρ else some false
noncomputable def pJ (f g:ay->Option Bool):ay->Option Bool:=λρ=>(f ρ).bind λc=>if c=true then some true else g ρ
noncomputable def gZ (f:ay->Option Bool):ay->Option Bool:=λρ=>(f ρ).map (!·)
abbrev YA (X:Cx) (e:Expr) (f:ay->Option Bool):Prop:=PW X e (jT X.K f)
noncomputable def Ht (f g:ay->Option Dat):ay->Option Dat:=λρ=>(f ρ).bind λd=>(oK d).bind λc=>if c=true then g ρ else some (.bool false)
noncomputable def Jr (f g:ay->Option Dat):ay->Option Dat:=λρ=>(f ρ).bind λd=>(oK d).bind λc=>if c=true then some (.bool true)else g ρ
variable {ft:ay->Option Bool}
noncomputable def Js (ft:ay->Option Bool) (f g:ay->Option Dat):ay->Option Dat:=λρ=>(ft ρ).bind λc=>if c=true then f ρ else g ρ
noncomputable def f1 (g:Dat->Option Dat) (fa:ay->Option Dat):ay->Option Dat:=λρ=>(fa ρ).bind g
def Ye (K:Fg) (r:V->Hp->VK->Prop) (g:Dat->Option Dat):Prop:=∀(H:Hp) (Av:eX) (x:V) (dx d:Dat) (Q:VK),ij H Av->aS K H Av x dx->g dx=some d->(∀v H',aO H H'->aS K H' Av v d->Q v H')->r x H Q
theorem Qq{op:UnaryOp}{r:V->Hp->VK->Prop}{g:Dat->Option Dat}(ho:JF X (unaryOp op) r)(hd:Ye X.K r g)(ha:PF X a fa):PF X (.UnaryOp op a pos) (f1 g fa):=bA (Qr ho ha) λσ H Q aT=>by
 obtain⟨Av,ρ,d,hA,hE,hf,q⟩:=aT;obtain⟨dx,e1,hf⟩:=bind_some hf;exact⟨Av,ρ,dx,hA,hE,e1,λx H1 s1 r1=>hd H1 Av x dx d Q (hA.same s1) r1 hf λv H2 s2 r2=>q v H2 (s1.trans s2) r2⟩
noncomputable def aK:ay->Option (List Dat):=λ_=>some []
noncomputable def ax (f:ay->Option Dat) (g:ay->Option (List Dat)):ay->Option (List Dat):=λρ=>(f ρ).bind λd=>(g ρ).map (d::·)
theorem bT{β:Type}{o:Option α}{g:α->β}{b:β}(h:o.map g=some b):∃a,o=some a/\g a=b:=by
 cases o with
 |none=>cases h
 |some a=>exact⟨a,rfl,Option.some.inj h⟩
noncomputable def qG (g:ay->Option (List Dat)):ay->Option Dat:=λρ=>(g ρ).bind λds=>if ds.length<=sizeLine then some (.tuple ds)else none
noncomputable def lb (g:ay->Option (List Dat)):ay->Option Dat:=λρ=>(g ρ).bind λds=>if ds.length<=sizeLine then some (.list ds)else none
variable {fs:ay->Option (List Dat)} in
noncomputable def dJ (g:List Dat->Option Dat) (fs:ay->Option (List Dat)):ay->Option Dat:=λρ=>(fs ρ).bind g
def kN (K:Fg) (r:List V->Hp->VK->Prop) (g:List Dat->Option Dat):Prop:=∀(H:Hp) (Av:eX) (xs:List V) (ds:List Dat) (d:Dat) (Q:VK),ij H Av->aF K H Av xs ds->g ds=some d->(∀v H',aO H H'->aS K H' Av v d->Q v H')->r xs H Q
variable {fs:ay->Option (List Dat)} in
theorem AA{K:Fg}{r:List V->Hp->VK->Prop}{g:List Dat->Option Dat}(hr:kN K r g):∀σ H Q,tF K (dJ g fs) σ H Q->Ik r (AB K fs) σ H Q:=by
 rintro σ H Q ⟨Av,ρ,d,hA,hE,hf,q⟩;obtain⟨ds,e1,hf⟩:=bind_some hf;exact⟨Av,ρ,ds,hA,hE,e1,λxs H1 s1 r1=>hr H1 Av xs ds d Q (hA.same s1) r1 hf λv H2 s2 r2=>q v H2 (s1.trans s2) r2⟩
variable {x:Str}
variable {fs:ay->Option (List Dat)} in
theorem pj{p:Pos}{id:String}{r:List V->Hp->VK->Prop}{g:List Dat->Option Dat}(hc:iK X (.builtin id) r)(hd:kN X.K r g)(hm:X.mg x=none)(ha:FX X (e::es) fs)(hg:Gl X x:=by rfl)(hv:bootBuiltins x=some (.builtin id):=by rfl)(hn:x≠"__name__":=by decide)(fO:(x==("__debug__" : Str))=false:=by decide)(he:starEach (e::es) X.env=(false,eval e X.env)::starEach es X.env:=by rfl)(bW:(backTo pos (starEach es X.env)).any (·.1)=false:=by rfl):PF X (.Call (.Name x p) (e::es) [] pos) (dJ g fs):=bA (pk hc hg hm hv ha hn fO he bW) (AA hd)
variable {T:String}
variable {fs:ay->Option (List Dat)} in
theorem nP{p:Pos}{r:List V->Hp->VK->Prop}{g:List Dat->Option Dat}(hc:iK X (.type T) r)(hd:kN X.K r g)(hm:X.mg x=none)(ha:FX X (e::es) fs)(hg:Gl X x:=by rfl)(hv:bootBuiltins x=some (.type T):=by rfl)(hn:x≠"__name__":=by decide)(fO:(x==("__debug__" : Str))=false:=by decide)(he:starEach (e::es) X.env=(false,eval e X.env)::starEach es X.env:=by rfl)(bW:(backTo pos (starEach es X.env)).any (·.1)=false:=by rfl):PF X (.Call (.Name x p) (e::es) [] pos) (dJ g fs):=bA (wy hc hg hm hv ha hn fO he bW) (AA hd)
noncomputable def AG (K:Fg) (n:Nat) (F:List Dat->Option Dat):Sp:=λvs H Q _=>∃Av ds d,ij H Av/\aF K H Av vs ds/\ds.length=n/\F ds=some d/\∀v H',aO H H'->aS K H' Av v d->Q v H'
variable {fs:ay->Option (List Dat)} in
noncomputable def cu (n:Nat) (F:List Dat->Option Dat) (fs:ay->Option (List Dat)):ay->Option Dat:=λρ=>(fs ρ).bind λds=>if ds.length=n then F ds else none
variable {n:Nat} {F:List Dat->Option Dat}
variable {fs:ay->Option (List Dat)} in
theorem BS{K:Fg}{E:XK}:∀σ H Q,tF K (cu n F fs) σ H Q->ri (AG K n F) [] E (AB K fs) σ H Q:=by
 rintro σ H Q ⟨Av,ρ,d,hA,hE,hf,q⟩;obtain⟨ds,e1,hf⟩:=bind_some hf;split at hf
 ·rename_i hl;exact⟨Av,ρ,ds,hA,hE,e1,λxs H1 s1 r1=>⟨Av,ds,d,hA.same s1,by rw[append_nil];exact r1,hl,hf,λv H2 s2 r2=>q v H2 (s1.trans s2) r2⟩⟩
 ·cases hf
structure Dn (P:Program) (w:World) (K:Fg) (mg:Str->Option Value) (base:Heap) (k:Nat) (x:Str) (ps:List Str) (n:Nat) (F:List Dat->Option Dat):Prop where
 ex:∃(f:Addr) (fd:FuncData),gg P w K mg base j0 k f fd ps (AG K n F)/\mg x=some (.ref f)/\keepIn K (.ref f)=true/\Binds K fd ps []
variable {P:Program} {w:World} {mg:Str->Option Value} {base:Heap} {ps:List Str}
theorem Dn.up{K:Fg}{j k:Nat}(D:Dn P w K mg base j x ps n F)(h:j<=k):Dn P w K mg base k x ps n F:=by
 obtain⟨f,fd,h1,h2⟩:=D.ex;exact⟨f,fd,h1.mono h,h2⟩
open PySem PySem.Spec PyProof.Rows L2
open PySem.W (Dat)
inductive Slot where
 |ag (d:Dat)
 |own (ds:List Dat)
 |obj (O:Addr->List V->Heap->Prop) (ds:List Dat)
 |lV (a:Addr) (xs:List V) (ds:List Dat)
 |nE (pa:Option (Addr×List V)) (O:List V->HO) (ds:List Dat)
noncomputable def VH:HO->Bool
 | .tup _=>false
 | .jt _ _=>false
 |_=>true
noncomputable def Slot.mt:Slot->Bool
 | .ag _=>false
 |_=>true
noncomputable abbrev aD:=List (Option Slot)
noncomputable def dD (Γ:aD):ay:=Γ.map λo=>match o with|some (.ag d)=>some d|_=>none
noncomputable def bo (Γ:aD):ay:=Γ.map λo=>match o with|some (.ag d)=>some d|some (.own ds)=>some (.list ds)|some (.lV _ _ ds)=>some (.list ds)|_=>none
noncomputable def cI (Av:eX) (Γ:aD) (ad:Nat->Addr):eX:=λa=>Av a\/∃(i:Nat) (s:Slot),Γ[i]?=some (some s)/\s.mt=true/\ad i=a
noncomputable abbrev Hid:=List (V×Dat)
structure GA (K:Fg) (aq:Hp) (Av:eX) (pn:Option Addr) (aQ:Hid) (H:Hp) (σ:L2.St) (Γ:aD) (ad:Nat->Addr):Prop where
 same:aO aq H
 fY:ij aq Av
 len:σ.length=Γ.length
 ag:∀(i:Nat) (d:Dat),Γ[i]?=some (some (.ag d))->∃v,σ[i]?=some (some v)/\aS K H (cI Av Γ ad) v d
 own:∀(i:Nat) (ds:List Dat),Γ[i]?=some (some (.own ds))->∃xs,σ[i]?=some (some (.ref (ad i)))/\H (ad i)=some (.lst xs)/\aF K H (cI Av Γ ad) xs ds/\aq (ad i)=none
 inj:∀(i j:Nat) (s t:Slot),Γ[i]?=some (some s)->Γ[j]?=some (some t)->s.mt=true->t.mt=true->ad i=ad j->i=j
 aQ:∀p∈aQ,aS K H (cI Av Γ ad) p.1 p.2
 pin:∀a ds,pn=some a->Γ[0]?=some (some (.own ds))->ad 0=a
 obj:∀(i:Nat) (O:Addr->List V->Heap->Prop) (ds:List Dat),Γ[i]?=some (some (.obj O ds))->∃xs,σ[i]?=some (some (.ref (ad i)))/\H (ad i)=some (.ext (O (ad i) xs))/\aF K H (cI Av Γ ad) xs ds/\aq (ad i)=none
 lV:∀(i:Nat) (a:Addr) (xs:List V) (ds:List Dat),Γ[i]?=some (some (.lV a xs ds))->ad i=a/\σ[i]?=some (some (.ref a))/\H a=some (.lst xs)/\aF K H (cI Av Γ ad) xs ds/\aq a=none
 nE:∀(i:Nat) (pa:Option (Addr×List V)) (O:List V->HO) (ds:List Dat),Γ[i]?=some (some (.nE pa O ds))->∃xs,(∀q,pa=some q->ad i=q.1/\xs=q.2)/\σ[i]?=some (some (.ref (ad i)))/\H (ad i)=some (O xs)/\aF K H (cI Av Γ ad) xs ds/\aq (ad i)=none/\VH (O xs)=true
def jy (K:Fg) (aq:Hp) (Av:eX) (pn:Option Addr) (aQ:Hid) (H:Hp) (σ:L2.St) (Γ:aD):Prop:=∃ad,GA K aq Av pn aQ H σ Γ ad
variable {ad:Nat->Addr} {Γ:aD} {aQ:Hid} {aq:Hp} {pn:Option Addr} {i:Nat}
theorem GA.mt(G:GA K aq Av pn aQ H σ Γ ad){s:Slot}(h:Γ[i]?=some (some s))(m:s.mt=true):(∃o,H (ad i)=some o)/\aq (ad i)=none:=by
 cases s with
 |ag d=>cases m
 |own ds=>obtain⟨xs,_,a,_,b⟩:=G.own i ds h;exact⟨⟨_,a⟩,b⟩
 |obj O ds=>obtain⟨xs,_,a,_,b⟩:=G.obj i O ds h;exact⟨⟨_,a⟩,b⟩
 |lV a xs ds=>obtain⟨e,_,a,_,b⟩:=G.lV i a xs ds h;rw[e];exact⟨⟨_,a⟩,b⟩
 |nE pa O ds=>obtain⟨xs,_,_,a,_,b⟩:=G.nE i pa O ds h;exact⟨⟨_,a⟩,b.1⟩
theorem GA.UC(G:GA K aq Av pn aQ H σ Γ ad)(i j:Nat)(ds es:List Dat)(h1:Γ[i]?=some (some (.own ds)))(h2:Γ[j]?=some (some (.own es)))(e:ad i=ad j):i=j:=G.inj i j _ _ h1 h2 rfl rfl e
theorem GA.uS(G:GA K aq Av pn aQ H σ Γ ad):ij H (cI Av Γ ad):=by
 rintro a (z|⟨i,s,e,m,rfl⟩)
 ·exact(G.fY.same G.same) a z
 ·exact(G.mt e m).1
theorem GA.qH(G:GA K aq Av pn aQ H σ Γ ad):fD K H (cI Av Γ ad) σ (dD Γ):=λi d e=>by
 unfold dD at e;rw[getElem?_map]at e;cases h:Γ[i]? with
 |none=>rw[h]at e;cases e
 |some o=>
  rw[h]at e;cases o with
  |none=>cases e
  |some s=>
   cases s with
   |ag d'=>cases e;exact G.ag i d h
   |own ds=>cases e
   |obj O ds=>cases e
   |lV a xs ds=>cases e
   |nE pa O ds=>cases e
theorem GA.gE(G:GA K aq Av pn aQ H σ Γ ad):fD K H Av σ (bo Γ):=λi d e=>by
 unfold bo at e;rw[getElem?_map]at e;cases h:Γ[i]? with
 |none=>rw[h]at e;cases e
 |some o=>
  rw[h]at e;cases o with
  |none=>cases e
  |some s=>
   cases s with
   |ag d'=>
    cases e;obtain⟨v,h1,h2⟩:=G.ag i d h;exact⟨v,h1,h2.weak λ_ z=>.inl z⟩
   |own ds=>
    cases e;obtain⟨xs,h1,h2,h3,h4⟩:=G.own i ds h;refine⟨_,h1,.lst (.inl ⟨.inl h2,λz=>?_⟩) (h3.weak λ_ z=>.inl z)⟩;obtain⟨o,q⟩:=G.fY _ z;rw[h4]at q;cases q
   |obj O ds=>cases e
   |lV a xs ds=>
    cases e;obtain⟨_,h1,h2,h3,h4⟩:=G.lV i a xs ds h;refine⟨_,h1,.lst (.inl ⟨.inl h2,λz=>?_⟩) (h3.weak λ_ z=>.inl z)⟩;obtain⟨o,q⟩:=G.fY _ z;rw[h4]at q;cases q
   |nE pa O ds=>cases e
theorem GA.grow(G:GA K aq Av pn aQ H σ Γ ad)(e:aO H H'):GA K aq Av pn aQ H' σ Γ ad:=
 ⟨G.same.trans e,G.fY,G.len,λi d h=>let ⟨v,a,r⟩:=G.ag i d h;⟨v,a,r.same e⟩,λi ds h=>let ⟨xs,a,b,r,c⟩:=G.own i ds h;⟨xs,a,e _ _ b,r.same e,c⟩,G.inj,λp hp=>(G.aQ p hp).same e,G.pin,λi O ds h=>let ⟨xs,a,b,r,c⟩:=G.obj i O ds h;⟨xs,a,e _ _ b,r.same e,c⟩,λi a xs ds h=>let ⟨f,g,b,r,c⟩:=G.lV i a xs ds h;⟨f,g,e _ _ b,r.same e,c⟩,λi pa O ds h=>let ⟨xs,f,a,b,r,c⟩:=G.nE i pa O ds h;⟨xs,f,a,e _ _ b,r.same e,c⟩⟩
theorem bO{l:List α}{j:Nat}{a b:α}(h:(l.set i a)[j]?=some b):(j=i/\b=a)\/(j≠i/\l[j]?=some b):=by
 by_cases e:j=i
 ·subst e;left
  refine⟨rfl,?_⟩;by_cases hl:j<l.length
  ·rw[getElem?_set_self hl]at h;exact(Option.some.inj h).symm
  ·rw[List.getElem?_eq_none (by rw[length_set];omega)]at h;cases h
 ·right
  rw[getElem?_set_ne (Ne.symm e)]at h;exact⟨e,h⟩
theorem j9{l:List α}{a:α}(h:l[i]?=some a):i<l.length:=(List.getElem?_eq_some_iff.mp h).1
theorem cI.fk:∀a,cI Av (Γ.set i (some (.ag d))) ad a->cI Av Γ ad a:=by
 rintro a (z|⟨j,s,e,m,r⟩)
 ·exact .inl z
 ·rcases bO e with⟨_,q⟩|⟨_,q⟩
  ·cases q;cases m
  ·exact .inr ⟨j,s,q,m,r⟩
theorem GA.set(G:GA K aq Av pn aQ H σ Γ ad)(i:Nat)(r:aS K H (cI Av Γ ad) v d):GA K aq Av pn aQ H (σ.set i (some v)) (Γ.set i (some (.ag d))) ad:=by
 refine⟨G.same,G.fY,by rw[length_set,length_set];exact G.len,λj d' h=>?_,λj ds h=>?_,λj k s t h1 h2 m1 m2 e=>?_,λp hp=>(G.aQ p hp).weak cI.fk,λa ds e h=>?_,λj O ds h=>?_,λj a' xs ds h=>?_,λj pa O' ds h=>?_⟩
 ·have lO:=j9 h;rw[length_set]at lO;rcases bO h with⟨e,q⟩|⟨e,q⟩
  ·subst e;cases q;exact⟨v,getElem?_set_self (by rw[G.len];exact lO),r.weak cI.fk⟩
  ·obtain⟨u,a,b⟩:=G.ag j d' q;exact⟨u,by rw[getElem?_set_ne (Ne.symm e)];exact a,b.weak cI.fk⟩
 ·rcases bO h with⟨e,q⟩|⟨e,q⟩
  ·cases q
  ·obtain⟨xs,a,b,c,e'⟩:=G.own j ds q;exact⟨xs,by rw[getElem?_set_ne (Ne.symm e)];exact a,b,c.weak cI.fk,e'⟩
 ·rcases bO h1 with⟨_,q⟩|⟨_,q1⟩
  ·cases q;cases m1
  rcases bO h2 with⟨_,q⟩|⟨_,q2⟩
  ·cases q;cases m2
  exact G.inj j k s t q1 q2 m1 m2 e
 ·rcases bO h with⟨_,q⟩|⟨_,q⟩
  ·cases q
  ·exact G.pin a ds e q
 ·rcases bO h with⟨e,q⟩|⟨e,q⟩
  ·cases q
  ·obtain⟨xs,a,b,c,e'⟩:=G.obj j O ds q;exact⟨xs,by rw[getElem?_set_ne (Ne.symm e)];exact a,b,c.weak cI.fk,e'⟩
 ·rcases bO h with⟨e,q⟩|⟨e,q⟩
  ·cases q
  ·obtain⟨f,a,b,c,e'⟩:=G.lV j a' xs ds q;exact⟨f,by rw[getElem?_set_ne (Ne.symm e)];exact a,b,c.weak cI.fk,e'⟩
 ·rcases bO h with⟨e,q⟩|⟨e,q⟩
  ·cases q
  ·obtain⟨xS,f,a,b,c,e'⟩:=G.nE j pa O' ds q;exact⟨xS,f,by rw[getElem?_set_ne (Ne.symm e)];exact a,b,c.weak cI.fk,e'⟩
theorem GA.Dd(G:GA K aq Av pn aQ H σ Γ ad)(i:Nat)(wN:i≠0)(hp:H p=none)(r:aF K H (cI Av Γ ad) xs ds):
  GA K aq Av pn aQ (upd H p (.lst xs)) (σ.set i (some (.ref p))) (Γ.set i (some (.own ds))) (λj=>if j=i then p else ad j):=by
 have sm:aO H (upd H p (.lst xs)):=cb hp _;have RD:∀j s,Γ[j]?=some (some s)->Slot.mt s=true->ad j≠p:=λj s h m=>by
  obtain⟨⟨o,b⟩,_⟩:=G.mt h m;exact aU b hp
 have kp:tI H (cI Av Γ ad) (upd H p (.lst xs)) (cI Av (Γ.set i (some (.own ds))) (λj=>if j=i then p else ad j)):=by
  intro b o h n;refine⟨sm b o h,?_⟩;rintro(z|⟨j,es,e,m,r⟩)
  ·exact n (.inl z)
  ·rcases bO e with⟨e1,_⟩|⟨e1,q⟩
   ·have r':p=b:=by simpa [e1]using r
    exact aU h hp r'.symm
   ·have r':ad j=b:=by simpa [e1]using r
    exact n (.inr ⟨j,es,q,m,r'⟩)
 have yW:∀{vs:List V} {d:List Dat},aF K H (cI Av Γ ad) vs d->aF K (upd H p (.lst xs)) (cI Av (Γ.set i (some (.own ds))) (λj=>if j=i then p else ad j)) vs d:=λh=>h.mono kp
 ·refine⟨G.same.trans sm,G.fY,by rw[length_set,length_set];exact G.len,λj d' h=>?_,λj es h=>?_,λj l es fs h1 h2 m1 m2 e=>?_,λq hq=>(G.aQ q hq).mono kp,λa es e h=>?_,λj O es h=>?_,λj a' zs es h=>?_,λj pa O' es h=>?_⟩
  ·rcases bO h with⟨e,q⟩|⟨e,q⟩
   ·cases q
   ·obtain⟨u,a,b⟩:=G.ag j d' q;exact⟨u,by rw[getElem?_set_ne (Ne.symm e)];exact a,b.mono kp⟩
  ·have lO:=j9 h;rw[length_set]at lO;rcases bO h with⟨e,q⟩|⟨e,q⟩
   ·subst e;cases q;refine⟨xs,?_,?_,yW r,?_⟩
    ·rw[if_pos rfl];exact getElem?_set_self (by rw[G.len];exact lO)
    ·rw[if_pos rfl];exact d5
    ·rw[if_pos rfl];cases e0:aq p with
     |none=>rfl
     |some o=>have:=G.same p o e0;rw[hp]at this;cases this
   ·obtain⟨ys,a,b,c,e'⟩:=G.own j es q;refine⟨ys,?_,?_,yW c,?_⟩
    ·rw[if_neg e,getElem?_set_ne (Ne.symm e)];exact a
    ·rw[if_neg e];exact sm _ _ b
    ·rw[if_neg e];exact e'
  ·rcases bO h1 with⟨e1,q1⟩|⟨e1,q1⟩
   ·rcases bO h2 with⟨e2,q2⟩|⟨e2,q2⟩
    ·rw[e1,e2]
    ·rw[if_pos e1,if_neg e2]at e;exact absurd e.symm (RD l fs q2 m2)
   ·rcases bO h2 with⟨e2,q2⟩|⟨e2,q2⟩
    ·rw[if_neg e1,if_pos e2]at e;exact absurd e (RD j es q1 m1)
    ·rw[if_neg e1,if_neg e2]at e;exact G.inj j l es fs q1 q2 m1 m2 e
  ·rcases bO h with⟨z,_⟩|⟨_,q⟩
   ·exact absurd z.symm wN
   ·show(if 0=i then p else ad 0)=a;rw[if_neg (Ne.symm wN)];exact G.pin a es e q
  ·rcases bO h with⟨e,q⟩|⟨e,q⟩
   ·cases q
   ·obtain⟨ys,a,b,c,e'⟩:=G.obj j O es q;refine⟨ys,?_,?_,yW c,?_⟩
    ·rw[if_neg e,getElem?_set_ne (Ne.symm e)];exact a
    ·rw[if_neg e];exact sm _ _ b
    ·rw[if_neg e];exact e'
  ·rcases bO h with⟨e,q⟩|⟨e,q⟩
   ·cases q
   ·obtain⟨f,a,b,c,e'⟩:=G.lV j a' zs es q;refine⟨?_,?_,sm _ _ b,yW c,e'⟩
    ·rw[if_neg e];exact f
    ·rw[getElem?_set_ne (Ne.symm e)];exact a
  ·rcases bO h with⟨e,q⟩|⟨e,q⟩
   ·cases q
   ·obtain⟨xS,f,a,b,c,e'⟩:=G.nE j pa O' es q;exact⟨xS,λq hq=>by rw[if_neg e];exact f q hq,by rw[if_neg e,getElem?_set_ne (Ne.symm e)];exact a,by rw[if_neg e];exact sm _ _ b,yW c,by rw[if_neg e];exact e'⟩
theorem GA.change(G:GA K aq Av pn aQ H σ Γ ad){es:List Dat}{ys:List V}(hi:Γ[i]?=some (some (.own ds)))(r:aF K H (cI Av Γ ad) ys es):
  GA K aq Av pn aQ (upd H (ad i) (.lst ys)) σ (Γ.set i (some (.own es))) ad:=by
 have lO:i<Γ.length:=j9 hi;have av:∀a,cI Av (Γ.set i (some (.own es))) ad a->cI Av Γ ad a:=by
  rintro a (z|⟨j,fs,e,m,q⟩)
  ·exact .inl z
  ·rcases bO e with⟨e1,_⟩|⟨e1,q1⟩
   ·subst e1;exact .inr ⟨j,_,hi,rfl,q⟩
   ·exact .inr ⟨j,fs,q1,m,q⟩
 have kp:tI H (cI Av Γ ad) (upd H (ad i) (.lst ys)) (cI Av (Γ.set i (some (.own es))) ad):=by
  intro b o h n;refine⟨?_,λz=>n (av b z)⟩;rw[bF λz=>n (.inr ⟨i,_,hi,rfl,z.symm⟩)];exact h
 obtain⟨xs0,g1,g2,g3,g4⟩:=G.own i ds hi;refine⟨λb o h=>?_,G.fY,by rw[length_set];exact G.len,λj d' h=>?_,λj fs h=>?_,λj l fs gs h1 h2 m1 m2 e=>?_,λp hp=>(G.aQ p hp).mono kp,λa fs e h=>?_,λj O fs h=>?_,λj a' zs fs h=>?_,λj pa O' fs h=>?_⟩
 ·rw[bF (aU h g4)];exact G.same b o h
 ·rcases bO h with⟨e,q⟩|⟨e,q⟩
  ·cases q
  ·obtain⟨u,a,b⟩:=G.ag j d' q;exact⟨u,a,b.mono kp⟩
 ·rcases bO h with⟨e,q⟩|⟨e,q⟩
  ·subst e;cases q;exact⟨ys,g1,d5,r.mono kp,g4⟩
  ·obtain⟨zs,a,b,c,e'⟩:=G.own j fs q;refine⟨zs,a,?_,c.mono kp,e'⟩;rw[bF λz=>e (G.UC j i fs ds q hi z)];exact b
 ·rcases bO h1 with⟨e1,q1⟩|⟨e1,q1⟩
  ·rcases bO h2 with⟨e2,q2⟩|⟨e2,q2⟩
   ·rw[e1,e2]
   ·subst e1;exact G.inj j l _ gs hi q2 rfl m2 e
  ·rcases bO h2 with⟨e2,q2⟩|⟨e2,q2⟩
   ·subst e2;exact G.inj j l fs _ q1 hi m1 rfl e
   ·exact G.inj j l fs gs q1 q2 m1 m2 e
 ·rcases bO h with⟨z,_⟩|⟨_,q⟩
  ·subst z;exact G.pin a ds e hi
  ·exact G.pin a fs e q
 ·rcases bO h with⟨e,q⟩|⟨e,q⟩
  ·cases q
  ·obtain⟨zs,a,b,c,e'⟩:=G.obj j O fs q;refine⟨zs,a,?_,c.mono kp,e'⟩;rw[bF λz=>e (G.inj j i _ _ q hi rfl rfl z)];exact b
 ·rcases bO h with⟨e,q⟩|⟨e,q⟩
  ·cases q
  ·obtain⟨f,a,b,c,e'⟩:=G.lV j a' zs fs q;refine⟨f,a,?_,c.mono kp,e'⟩;rw[bF λz=>e (G.inj j i _ _ q hi rfl rfl (f.trans z))];exact b
 ·rcases bO h with⟨e,q⟩|⟨e,q⟩
  ·cases q
  ·obtain⟨xS,f,a,b,c,e'⟩:=G.nE j pa O' fs q;refine⟨xS,f,a,?_,c.mono kp,e'⟩;rw[bF λz=>e (G.inj j i _ _ q hi rfl rfl z)];exact b
theorem GA.hide(G:GA K aq Av pn aQ H σ Γ ad)(r:aS K H (cI Av Γ ad) v d):GA K aq Av pn ((v,d)::aQ) H σ Γ ad:=
 ⟨G.same,G.fY,G.len,G.ag,G.own,G.inj,λp hp=>by
  rcases mem_cons.mp hp with e|h
  ·subst e;exact r
  ·exact G.aQ p h,G.pin,G.obj,G.lV,G.nE⟩
theorem GA.y7(G:GA K aq Av pn ((v,d)::aQ) H σ Γ ad):GA K aq Av pn aQ H σ Γ ad:=
 ⟨G.same,G.fY,G.len,G.ag,G.own,G.inj,λp hp=>G.aQ p (mem_cons_of_mem _ hp),G.pin,G.obj,G.lV,G.nE⟩
inductive Fl where
 |nx (Γ:aD)|rt (d:Dat)|bk (Γ:aD)|ct (Γ:aD)|rm (d:Dat) (Γ:aD)
noncomputable def OG (K:Fg) (aq:Hp) (Av:eX) (pn:Option Addr) (aQ:Hid) (D:Ends):Fl->Prop
 | .nx Γ=>∀σ H,jy K aq Av pn aQ H σ Γ->D.nx σ H
 | .rt d=>∀v H,aO aq H->aS K H Av v d->D.rt v H
 | .bk Γ=>∀σ H,jy K aq Av pn aQ H σ Γ->D.bk σ H
 | .ct Γ=>∀σ H,jy K aq Av pn aQ H σ Γ->D.ct σ H
 | .rm d Γ=>∀σ v H ad,GA K aq Av pn aQ H σ Γ ad->aS K H (cI Av Γ ad) v d->D.rt v H
noncomputable def oo (K:Fg) (g:aD->Option Fl):TS:=λD σ H=>∃aq Av pn aQ Γ fl,jy K aq Av pn aQ H σ Γ/\g Γ=some fl/\OG K aq Av pn aQ D fl
abbrev PB (X:Cx) (st:Stmt) (g:aD->Option Fl):Prop:=PS X st (oo X.K g)
abbrev Pz (X:Cx) (st:List Stmt) (g:aD->Option Fl):Prop:=iu X st (oo X.K g)
variable {st:Stmt}
theorem cT{t t':TS}(h:PS X st t)(m:∀D σ H,t' D σ H->t D σ H):PS X st t':=λpins s σ H D I q=>h pins s σ H D I (m D σ H q)
variable {rest:List Stmt}
theorem l6{t t':TS}(h:iu X rest t)(m:∀D σ H,t' D σ H->t D σ H):iu X rest t':=λpins s σ H D I q=>h pins s σ H D I (m D σ H q)
noncomputable def dX:aD->Option Fl:=λΓ=>some (.nx Γ)
variable {g2 g1:aD->Option Fl}
noncomputable def bG (g1 g2:aD->Option Fl):aD->Option Fl:=λΓ=>(g1 Γ).bind λfl=>match fl with
 | .nx au=>g2 au
 | .rt d=>some (.rt d)
 | .bk au=>some (.bk au)
 | .ct au=>some (.ct au)
 | .rm d au=>some (.rm d au)
noncomputable def qe:aD->Option Fl:=λ_=>none
noncomputable def iW (f:ay->Option Dat):aD->Option Fl:=λΓ=>(f (bo Γ)).map .rt
noncomputable def eI (ft:ay->Option Bool) (g1 g2:aD->Option Fl):aD->Option Fl:=λΓ=>(ft (bo Γ)).bind λc=>if c=true then g1 Γ else g2 Γ
noncomputable def pM:Dat->Bool
 | .none=>true| .bool _=>true| .int _=>true| .str _=>true
 |_=>false
theorem aS.sc{K:Fg}(h:aS K H Av v d)(s:pM d=true):aS K H lX v d:=by
 cases h with
 |bU=>exact .bU
 |bl b=>exact .bl b
 |int i=>exact .int i
 |str x=>exact .str x
 |tup _ _=>cases s
 |lst _ _=>cases s
noncomputable def cW (i:Nat) (f:ay->Option Dat):aD->Option Fl:=λΓ=>match f (dD Γ)with
 |some d=>some (.nx (Γ.set i (some (.ag d))))
 |none=>(f (bo Γ)).bind λd=>if pM d=true then some (.nx (Γ.set i (some (.ag d))))else none
theorem tO{K:Fg}:∀D σ H,oo K (cW i f) D σ H->BU (tF K f) (xO i) D σ H:=by
 rintro D σ H ⟨aq,Av,pn,aQ,Γ,fl,⟨ad,G⟩,hf,q⟩;unfold cW at hf;split at hf
 ·rename_i d e1;cases hf;exact⟨cI Av Γ ad,dD Γ,d,G.uS,G.qH,e1,λv H' s r=>q _ _ ⟨ad,(G.grow s).set i r⟩⟩
 ·obtain⟨d,e1,hf⟩:=bind_some hf;split at hf
  ·rename_i hs;cases hf;exact⟨Av,bo Γ,d,G.fY.same G.same,G.gE,e1,λv H' s r=>q _ _ ⟨ad,(G.grow s).set i (r.sc hs)⟩⟩
  ·cases hf
noncomputable def rn (f:ay->Option Dat):aD->Option Fl:=λΓ=>(f (bo Γ)).map λ_=>.nx Γ
noncomputable abbrev dH:=List (Nat×Dat)
inductive ll (K:Fg) (H:Hp) (Av:eX):List (Nat×V)->dH->Prop
 |nil:ll K H Av [] []
 |cons {i:Nat} {v:V} {d:Dat} {vs:List (Nat×V)} {ds:dH}:aS K H Av v d->ll K H Av vs ds->ll K H Av ((i,v)::vs) ((i,d)::ds)
noncomputable def o4 (σ:L2.St) (ws:List (Nat×V)):L2.St:=ws.foldl (λσ p=>σ.set p.1 (some p.2)) σ
noncomputable def setG (Γ:aD) (ws:dH):aD:=ws.foldl (λΓ p=>Γ.set p.1 (some (.ag p.2))) Γ
noncomputable def j5 (ρ:ay) (ws:dH):ay:=ws.foldl (λρ p=>ρ.set p.1 (some p.2)) ρ
theorem ll.append{K:Fg}{H:Hp}{Av:eX}:∀{a b:List (Nat×V)} {c d:dH},ll K H Av a c->ll K H Av b d->ll K H Av (a++b) (c++d)
 |_,_,_,_,.nil,s=>s
 |_,_,_,_,.cons h r,s=>.cons h (ll.append r s)
noncomputable def iN (K:Fg) (gt:Dat->Option dH):TG:=λv σ H Q=>∃Av d as,aS K H Av v d/\gt d=some as/\∀ws,ll K H Av ws as->Q (o4 σ ws) H
noncomputable def vh (K:Fg) (gt:List Dat->Option dH):pS:=λvs σ H Q=>∃Av ds as,aF K H Av vs ds/\gt ds=some as/\∀ws,ll K H Av ws as->Q (o4 σ ws) H
theorem vz{t t':TG}{tg:Expr}(h:PG X tg t)(m:∀v σ H Q,t' v σ H Q->t v σ H Q):PG X tg t':=λpins s σ H v u Q I r q=>h pins s σ H v u Q I r (m v σ H Q q)
theorem yL{t t':pS}{tg:List Expr}(h:v7 X tg t)(m:∀v σ H Q,t' v σ H Q->t v σ H Q):v7 X tg t':=λpins s σ H v u Q I r q=>h pins s σ H v u Q I r (m v σ H Q q)
noncomputable def aName (i:Nat):Dat->Option dH:=λd=>some [(i,d)]
noncomputable def vS:List Dat->Option dH:=λds=>match ds with|[]=>some []|_=>none
variable {g:aD->Option Fl} in
noncomputable def mE (g:Dat->Option dH) (gs:List Dat->Option dH):List Dat->Option dH:=λds=>match ds with
 |[]=>none
 |d::r=>(g d).bind λa=>(gs r).map (a++·)
noncomputable def qN (n:Nat) (gs:List Dat->Option dH):Dat->Option dH:=λd=>match d with
 | .tuple ds=>if ds.length=n then gs ds else none
 |_=>none
variable {ws:List (Nat×V)} {as:dH}
theorem GA.gJ{K:Fg}{Rf:aD}(h:ll K H (cI Av Rf ad) ws as)(hw:∀a,cI Av Γ ad a->cI Av Rf ad a)(G:GA K aq Av pn aQ H σ Γ ad):
  GA K aq Av pn aQ H (o4 σ ws) (setG Γ as) ad:=by
 induction h generalizing σ Γ with
 |nil=>exact G
 | @cons i v d vs ds h r ih=>exact ih (σ:=σ.set i (some v)) (Γ:=Γ.set i (some (.ag d))) (λa z=>hw a (cI.fk a z)) (G.set i (h.weak hw))
noncomputable def yr (gt:Dat->Option dH) (f:ay->Option Dat):aD->Option Fl:=λΓ=>(f (dD Γ)).bind λd=>(gt d).map λas=>.nx (setG Γ as)
open PySem PySem.Spec PyProof.Rows L2
open PySem.W (Dat)
noncomputable def Hk (K:Fg) (tl:TE):TI:=λσ H R=>tl σ H λx H1=>∃a,x=.ref a/\(((∃xs,fF K H1 a xs)/\R (PL K a) H1)\/((∃xs,jI K H1 a xs)/\R (PK K a) H1))
variable {tg:Expr}
theorem qp{l:Expr}{tl:TE}(hl:PE X l tl):PI X tg l (Hk X.K tl):=by
 intro pins s σ H R I h;refine bP (hl pins s σ H _ I h) λv s1 ⟨x,H1,I1,r1,q1⟩=>?_;obtain⟨a,e,q⟩:=q1;subst e;cases r1;rcases q with⟨⟨xs,hq⟩,q⟩|⟨⟨xs,hq⟩,q⟩
 ·obtain⟨aA,rv,p,hz⟩:=I1.list hq;refine wpAny_pyIter_list p.isList ?_;refine⟨s1.heap.objs.size,[s1.heap.objs.size],_,_,H1,rfl,I1.kept (t':=s1.toks) λb o e=>get?_push_of_some _ e,CS a _,⟨_,get?_push_size _ rfl,rfl,rfl⟩,λb hb=>?_,q⟩;have e:b=s1.heap.objs.size:=by simpa using hb
  subst e;exact I1.Ci (le_refl _) (I1.hok.fresh (le_refl _))
 ·obtain⟨aA,rv,p,hz⟩:=I1.tuple hq;refine wpAny_pyIter_tuple (show s1.heap.IsTuple a aA.toArray from p) ?_;refine⟨s1.heap.objs.size,[s1.heap.objs.size],_,_,H1,rfl,I1.kept (t':=s1.toks) λb o e=>get?_push_of_some _ e,BO a _,⟨_,get?_push_size _ rfl,rfl,rfl⟩,λb hb=>?_,q⟩;have e:b=s1.heap.objs.size:=by simpa using hb
  subst e;exact I1.Ci (le_refl _) (I1.hok.fresh (le_refl _))
noncomputable def j8:Dat->Option (List Dat)
 | .list ds=>some ds
 | .tuple ds=>some ds
 |_=>none
def Over (K:Fg) (J:It) (x:V) (d:Dat) (ds:List Dat):Prop:=∀(i:Nat) (H:Hp) (Av:eX),aS K H Av x d->(ds.length<=i->J.stop i H)/\(∀di,ds[i]?=some di->J.go i H/\∀y H',J.oh i H y H'->H'=H/\aS K H Av y di)
theorem lK{K:Fg}{a:Addr}:Over K (PL K a) (.ref a) (.list ds) ds:=by
 intro i H Av r;obtain⟨b,xs,e,hq,rs⟩:=r.eZ;cases e;refine⟨λh=>⟨xs,hq.sq,by rw[rs.length];exact h⟩,λdi hd=>?_⟩;obtain⟨v,hv,rv⟩:=rs.get hd;refine⟨⟨xs,v,hq.sq,hv⟩,λy H' hy=>?_⟩;obtain⟨e,hy⟩:=hy;have:=hy xs hq.sq;rw[hv]at this;cases this;exact⟨e,rv⟩
theorem nq{K:Fg}{a:Addr}:Over K (PK K a) (.ref a) (.tuple ds) ds:=by
 intro i H Av r;obtain⟨b,xs,e,hq,rs⟩:=r.gI;cases e;refine⟨λh=>⟨xs,hq.sq,by rw[rs.length];exact h⟩,λdi hd=>?_⟩;obtain⟨v,hv,rv⟩:=rs.get hd;refine⟨⟨xs,v,hq.sq,hv⟩,λy H' hy=>?_⟩;obtain⟨e,hy⟩:=hy;have:=hy xs hq.sq;rw[hv]at this;cases this;exact⟨e,rv⟩
theorem drop_cons{l:List α}{a:α}(h:l[i]?=some a):l.drop i=a::l.drop (i+1):=by
 obtain⟨hl,e⟩:=List.getElem?_eq_some_iff.mp h;rw[List.drop_eq_getElem_cons hl,e]
noncomputable def forL (gt:Dat->Option dH) (gb:aD->Option Fl):List Dat->aD->Option Fl
 |[],Γ=>some (.nx Γ)
 |d::r,Γ=>(gt d).bind λas=>(gb (setG Γ as)).bind λfl=>match fl with
  | .nx au=>forL gt gb r au
  | .ct au=>forL gt gb r au
  | .bk au=>some (.nx au)
  | .rt v=>some (.rt v)
  | .rm v au=>some (.rm v au)
noncomputable def BX (gt:Dat->Option dH) (gb:aD->Option Fl) (f:ay->Option Dat):aD->Option Fl:=λΓ=>(f (dD Γ)).bind λd=>(j8 d).bind λds=>forL gt gb ds Γ
variable {gt:Dat->Option dH} {J:It} {H1:Hp}
theorem qF{K:Fg}{gb:aD->Option Fl}{D:Ends}{x:V}{fl:Fl}(ov:Over K J x d ds)(G:jy K aq Av pn ((x,d)::aQ) H1 σ Γ)(hf:forL gt gb ds Γ=some fl)(q:OG K aq Av pn aQ D fl):
  ∃W:Nat->Nat->L2.St->Hp->Prop,(∃m,W 0 m σ H1)/\∀i m σ H,W i m σ H->
   (J.stop i H/\D.nx σ H)\/(J.go i H/\∃N:L2.St->Hp->Prop,(∀bD H',N bD H'->∃m',m'<m/\W (i+1) m' bD H')/\∀x H',J.oh i H x H'->iN K gt x σ H' λdU H2=>oo K gb {D with nx:=N,ct:=N,bk:=D.nx} dU H2):=by
 refine⟨λi m σ H=>m=ds.length-i/\i<=ds.length/\∃Γ,jy K aq Av pn ((x,d)::aQ) H σ Γ/\forL gt gb (ds.drop i) Γ=some fl,⟨_,rfl,zero_le _,Γ,G,by rw[drop_zero];exact hf⟩,?_⟩;rintro i m σ H ⟨rfl,hi,Γ,⟨ad,G⟩,hf⟩;have rx:=G.aQ (x,d) mem_cons_self;cases gO:ds[i]? with
 |none=>
  have hl:ds.length<=i:=List.getElem?_eq_none_iff.mp gO;rw[drop_eq_nil_of_le hl]at hf;cases hf;exact .inl ⟨(ov i H _ rx).1 hl,q σ H ⟨ad,G.y7⟩⟩
 |some di=>
  have lO:=j9 gO;rw[drop_cons gO]at hf;obtain⟨as,e1,hf⟩:=bind_some (show(gt di).bind _=some fl from hf);obtain⟨nU,e2,hf⟩:=bind_some hf;obtain⟨go,yl⟩:=(ov i H _ rx).2 di gO;refine .inr ⟨go,λbD H'=>∃au,jy K aq Av pn ((x,d)::aQ) H' bD au/\forL gt gb (ds.drop (i+1)) au=some fl,λbD H' ⟨au,G',h'⟩=>⟨ds.length-(i+1),by omega,rfl,by omega,au,G',h'⟩,λy H' hy=>?_⟩;obtain⟨eH,ry⟩:=yl y H' hy;subst eH;refine⟨cI Av Γ ad,di,as,ry,e1,λws hw=>⟨aq,Av,pn,(x,d)::aQ,setG Γ as,nU,⟨ad,GA.gJ hw (λ_ z=>z) G⟩,e2,?_⟩⟩;cases nU with
  |nx au=>exact λdU H2 G2=>⟨au,G2,hf⟩
  |ct au=>exact λdU H2 G2=>⟨au,G2,hf⟩
  |bk au=>cases hf;exact λdU H2 ⟨Pk,G2⟩=>q dU H2 ⟨Pk,G2.y7⟩
  |rt v=>cases hf;exact q
  |rm v au=>cases hf;exact λdU v2 H2 Pk G2 r2=>q dU v2 H2 Pk G2.y7 r2
noncomputable def oW (lo:Int) (n:Nat):List Dat:=(List.range n).map fun(i:Nat)=>Dat.int (lo+(i:Int))
theorem Gs{lo:Int}{di:Dat}(h:(oW lo n)[i]?=some di):i<n/\di=.int (lo+(i:Int)):=by
 unfold oW at h;rw[getElem?_map]at h;cases e:(List.range n)[i]? with
 |none=>rw[e]at h;cases h
 |some k=>
  rw[e]at h;cases h;obtain⟨hl,e2⟩:=List.getElem?_eq_some_iff.mp e;rw[length_range]at hl;rw[List.getElem_range]at e2;subst e2;exact⟨hl,rfl⟩
theorem ue{K:Fg}{lo:Int}:Over K (JM lo n) .bU .none (oW lo n):=by
 intro i H Av _;refine⟨λh=>?_,λdi hd=>?_⟩
 ·have:(oW lo n).length=n:=by unfold oW;rw[length_map,length_range]
  show n<=i;omega
 ·obtain⟨hl,e⟩:=Gs hd;refine⟨hl,λy H' hy=>?_⟩;obtain⟨e1,e2⟩:=hy;subst e2;rw[e];exact⟨e1,.int _⟩
noncomputable def oX:List Dat->Option (List Dat)
 |[.int j]=>if -(2^62)<=j/\j<2^62 then some (oW 0 j.toNat)else none
 |_=>none
variable {fs:ay->Option (List Dat)} in
noncomputable def xB (rg:List Dat->Option (List Dat)) (gt:Dat->Option dH) (gb:aD->Option Fl) (fs:ay->Option (List Dat)):aD->Option Fl:=λΓ=>(fs (bo Γ)).bind λas=>(rg as).bind λds=>forL gt gb ds Γ
theorem aF.cJ{K:Fg}(h:aF K H Av vs [d]):∃v,vs=[v]/\aS K H Av v d:=by
 cases h with|cons a r=>cases r;exact⟨_,rfl,a⟩
variable {e:Dat}
theorem aF.JW{K:Fg}(h:aF K H Av vs [d,e]):∃v u,vs=[v,u]/\aS K H Av v d/\aS K H Av u e:=by
 cases h with|cons a r=>obtain⟨u,rfl,b⟩:=r.cJ;exact⟨_,u,rfl,a,b⟩
noncomputable def iL (ft:ay->Option Bool) (gb:aD->Option Fl):Nat->aD->Option Fl
 |0,_=>none
 |n+1,Γ=>(ft (bo Γ)).bind λc=>if c=true then(gb Γ).bind λfl=>match fl with
   | .nx au=>iL ft gb n au
   | .ct au=>iL ft gb n au
   | .bk au=>some (.nx au)
   | .rt v=>some (.rt v)
   | .rm v au=>some (.rm v au)
  else some (.nx Γ)
noncomputable def yp (fuel:aD->Nat) (ft:ay->Option Bool) (gb:aD->Option Fl):aD->Option Fl:=λΓ=>iL ft gb (fuel Γ) Γ
noncomputable def kP (K:Fg) (f:ay->Option (List Dat)):TE:=λσ H Q=>∃Av ρ ds,ij H Av/\fD K H Av σ ρ/\f ρ=some ds/\∀H1 p xs,aO H H1->H1 p=none->aF K H1 Av xs ds->Q (.ref p) (upd H1 p (.lst xs))
noncomputable def gd {α:Type} (c:Prop) [Decidable c] (o:Option α):Option α:=if c then o else none
theorem Bm{c:Prop}[Decidable c]{o:Option α}{a:α}(h:gd c o=some a):c/\o=some a:=by
 unfold gd at h;split at h
 ·rename_i hc;exact⟨hc,h⟩
 ·cases h
variable {fs:ay->Option (List Dat)} in
noncomputable def EJ (fs:ay->Option (List Dat)):ay->Option (List Dat):=λρ=>(fs ρ).bind λds=>gd (ds.length<=sizeLine) (some ds)
noncomputable def yq (i:Nat) (f:ay->Option (List Dat)):aD->Option Fl:=λΓ=>(f (dD Γ)).map λds=>.nx (Γ.set i (some (.own ds)))
noncomputable def lZ (i:Nat) (f:ay->Option Dat):aD->Option Fl:=λΓ=>match Γ[i]? with
 |some (some (.own ds))=>(f (dD Γ)).bind λd=>gd (ds.length<sizeLine) (some (.nx (Γ.set i (some (.own (ds++[d]))))))
 |_=>none
noncomputable def bY (N:List Str) (ds:List Dat):aD:=ds.map (λd=>some (.ag d))++List.replicate (N.length-ds.length) none
variable {g:aD->Option Fl} in
noncomputable def gq (N:List Str) (g:aD->Option Fl):List Dat->Option Dat:=λds=>match g (bY N ds)with
 |some (.rt d)=>some d
 |some (.nx _)=>some .none
 |_=>none
variable {N:List Str}
theorem jM{K:Fg}(hA:ij H Av)(r:aF K H Av vs ds)(hl:ds.length<=N.length):jy K H Av none [] H (start N vs) (bY N ds):=by
 have vD:∀(i:Nat) (s:Slot),(bY N ds)[i]?=some (some s)->s.mt=false:=λi s h=>by
  unfold bY at h;by_cases hi:i<ds.length
  ·rw[getElem?_append_left (by rw[length_map];exact hi),getElem?_map,getElem?_eq_getElem hi]at h;cases h;rfl
  ·rw[getElem?_append_right (by rw[length_map];omega),List.getElem?_replicate]at h;split at h<;>cases h
 refine⟨λ_=>0,aO.refl H,hA,?_,λi d h=>?_,λi es h=>absurd (vD i _ h) (by simp[Slot.mt]),λi j s _ h _ m=>absurd (vD i s h) (by rw[m];decide),λp hp=>absurd hp (by simp),λa es e=>(by cases e),λi O es h=>absurd (vD i _ h) (by simp[Slot.mt]),λi a xs es h=>absurd (vD i _ h) (by simp[Slot.mt]),λi pa O es h=>absurd (vD i _ h) (by simp[Slot.mt])⟩
 ·unfold L2.start bY;rw[length_append,length_append,length_map,length_map,List.length_replicate,List.length_replicate,r.length]
 ·unfold bY at h;by_cases hi:i<ds.length
  ·rw[getElem?_append_left (by rw[length_map];exact hi),getElem?_map,getElem?_eq_getElem hi]at h;cases h;obtain⟨v,hv,rv⟩:=r.get (getElem?_eq_getElem hi);refine⟨v,?_,rv.weak ?_⟩
   ·unfold L2.start;rw[getElem?_append_left (by rw[length_map,r.length];exact hi),getElem?_map,hv];rfl
   ·rintro a (z|⟨j,s,e,m,_⟩)
    ·exact z
    ·exact absurd (vD j s e) (by rw[m];decide)
  ·rw[getElem?_append_right (by rw[length_map];omega),List.getElem?_replicate]at h;split at h<;>cases h
variable {qual:Str} {fd:FuncData}
theorem R4{K:Fg}{fa:Addr}{k:Nat}{g:aD->Option Fl}(U:mw K x qual st fa fd)(hm:mg x=some (.ref fa))(hB:Binds K fd ps [])(S:eh N ps (aP st))(hn:ps.length=n)(hbody:∀(bJ:Value) (A:Around) (outer:List Env) (s:Shared) (H:Hp) (E:XK),cj k (A.deeper (envOfC qual (aP st) s.heap.objs.size fa bJ))->Pz (g9 j0 P w K mg base N qual (aP st) fa bJ A outer s H E).lL (d4 st) g)(hF:∀ds d,ds.length=n->F ds=some d->gq N g ds=some d):Dn P w K mg base (k+1) x ps n F:=by
 have bW:ps.length<=N.length:=by have:=congrArg List.length S.pre;rw[length_take]at this;omega
 refine⟨fa,fd,U.ok S (λvs H Q E h=>?_) (λbJ A outer s H vs Q E hr h=>?_),hm,U.kp,hB⟩
 ·obtain⟨Av,ds,d,_,r,hl,_⟩:=h;rw[r.length,hl,hn]
 ·obtain⟨Av,ds,d,hA,r,hl,hd,q⟩:=h;have fE:=hF ds d hl hd;unfold gq at fE;refine⟨_,hbody bJ A outer s H E hr,?_⟩;cases hg:g (bY N ds)with
  |none=>rw[hg]at fE;cases fE
  |some fl=>
   refine⟨H,Av,none,[],bY N ds,fl,jM hA r (by omega),hg,?_⟩;rw[hg]at fE;cases fl with
   |nx Γ=>cases fE;exact λbD H' ⟨ad,G⟩=>q _ H' G.same .bU
   |rt d'=>cases fE;exact λv H' s r=>q v H' s r
   |bk Γ=>cases fE
   |ct Γ=>cases fE
   |rm d' Γ=>cases fE
open PySem PySem.Spec PyProof.Rows L2
open PySem.W (Dat kqdOk kqdP kqdPs kqd_lay kqd_eqv)
noncomputable def oa (d e:Dat):Bool:=@decide (d=e) (Classical.propDecidable _)
theorem zP:oa d e=true↔d=e:=@decide_eq_true_iff _ (Classical.propDecidable _)
theorem zO(h:d=e):oa d e=true:=zP.mpr h
theorem zQ(h:d≠e):oa d e=false:=eq_false_iff.mpr λz=>h (zP.mp z)
noncomputable def iD (C:Int->Int->Prop) (g:Int->Int->Dat):Dat->Dat->Option Dat:=open Classical in λx y=>match x,y with
 | .int i,.int j=>if C i j then some (g i j)else none
 |_,_=>none
variable {C:Int->Int->Prop}
theorem jm{g:Int->Int->Dat}{i j:Int}(h:C i j):iD C g (.int i) (.int j)=some (g i j):=by
 unfold iD;exact if_pos h
theorem Eh{g:Int->Int->Dat}{x y:Dat}(h:iD C g x y=some d):∃i j,x=.int i/\y=.int j/\C i j/\d=g i j:=by
 unfold iD at h;split at h
 ·split at h
  ·rename_i i j hc;cases h;exact⟨i,j,rfl,rfl,hc,rfl⟩
  ·cases h
 ·cases h
theorem rJ{K:Fg}{g:Int->Int->Int}:kJ K (rI C λi j=>.int (g i j)) (iD C λi j=>.int (g i j)):=by
 intro H Av x y dx dy d Q hA rx ry h q;obtain⟨i,j,rfl,rfl,hc,rfl⟩:=Eh h;exact⟨i,j,rx.fH,ry.fH,hc,q _ H (aO.refl H) (.int _)⟩
theorem lu{K:Fg}{g:Int->Int->Bool}:kJ K (wg λi j=>.bl (g i j)) (iD (λ_ _=>True) λi j=>.bool (g i j)):=by
 intro H Av x y dx dy d Q hA rx ry h q;obtain⟨i,j,rfl,rfl,hc,rfl⟩:=Eh h;exact⟨i,j,rx.fH,ry.fH,q _ H (aO.refl H) (.bl _)⟩
noncomputable def mf:Dat->Dat->Option Dat
 | .int i,.int j=>some (.int (i+j))
 | .str x,.str y=>if x.length+y.length<=sizeLine then some (.str (x++y))else none
 |_,_=>none
def PY (_ _:Int):Prop:=True
def PX (i j:Int):Prop:=j≠0/\j.natAbs.log2<9000
def TV (_ j:Int):Prop:=j≠0
def PV (_ j:Int):Prop:=0<=j
theorem KD:dF X (binaryOp .Sub) (rI PY λi j=>.int (i-j)):=B2 λ_ _ _ _ _ _ _ _ q=>sub_int q
theorem KI:dF X (binaryOp .Mult) (rI IntMulOk λi j=>.int (i*j)):=B2 λ_ _ _ _ _ _ _ hc q=>mul_int q hc
theorem GW:dF X (binaryOp .FloorDiv) (rI PX λi j=>.int (i.fdiv j)):=B2 λ_ _ _ _ _ _ _ hc q=>floordiv_int hc.1 q (.inl (PyProof.noPylong_of_log2 hc.2))
theorem GV:dF X (binaryOp .Mod) (rI TV λi j=>.int (i.fmod j)):=B2 λ_ _ _ _ _ _ _ hc q=>mod_int' hc q
theorem KG:dF X (binaryOp .RShift) (rI PV λi j=>.int (i/2^j.toNat)):=N3
noncomputable abbrev vm:Dat->Dat->Option Dat:=iD PY λi j=>.int (i-j)
noncomputable abbrev pB:Dat->Dat->Option Dat:=iD IntMulOk λi j=>.int (i*j)
noncomputable abbrev mD:Dat->Dat->Option Dat:=iD PX λi j=>.int (i.fdiv j)
noncomputable abbrev iE:Dat->Dat->Option Dat:=iD TV λi j=>.int (i.fmod j)
noncomputable abbrev yK:Dat->Dat->Option Dat:=iD Ah λi j=>.int (i^j.toNat)
noncomputable abbrev Mn:Dat->Dat->Option Dat:=iD PV λi j=>.int (i/2^j.toNat)
noncomputable abbrev B7:Dat->Dat->Option Dat:=iD (λ_ _=>True) λi j=>.bool (decide (i<j))
noncomputable abbrev rZ:Dat->Dat->Option Dat:=iD (λ_ _=>True) λi j=>.bool (decide (i<=j))
noncomputable abbrev wR:Dat->Dat->Option Dat:=iD (λ_ _=>True) λi j=>.bool (decide (j<i))
noncomputable abbrev Sm:Dat->Dat->Option Dat:=iD (λ_ _=>True) λi j=>.bool (decide (j<=i))
noncomputable def qx:Dat->Option Dat
 | .int i=>some (.int (-i))
 |_=>none
mutual
theorem aS.reads{pins:List (Addr×Obj)}{σ:L2.St}{H:Hp}{s:Shared}{Av:eX}(I:Inv X pins σ H s):∀{v:V} {d:Dat} (n:Nat),aS X.K H Av v d->kqdOk n d=true->∀u,RelV v u->∃as,Reads s.heap u (kqdP d) as
 |_,_,n,.bU,_,u,r=>by cases(show u=Value.none from r);rw[kqdP];exact⟨_,.none⟩
 |_,_,n,.bl b,_,u,r=>by cases(show u=Value.bool b from r);rw[kqdP];exact⟨_,.bool b⟩
 |_,_,n,.int i,_,u,r=>by obtain⟨t,q⟩:=(show ∃t,u=Value.int i t from r);subst q;rw[kqdP];exact⟨_,.int i t⟩
 |_,_,n,.str x,_,u,r=>by obtain⟨t,q⟩:=(show ∃t,u=Value.str x t from r);subst q;rw[kqdP];exact⟨_,.str x t⟩
 |_,_,0,.tup _ _,hk,_,_=>by simp[kqdOk]at hk
 |_,_,0,.lst _ _,hk,_,_=>by simp[kqdOk]at hk
 |_,_,n+1,.tup (a:=a) hq rs,hk,u,r=>by
  cases(show u=Value.ref a from r);obtain⟨aA,rv,⟨o,h1,h2,m,h3⟩,_⟩:=I.tuple hq.sq;obtain⟨as,q⟩:=aF.reads I n rs (by simpa [kqdOk]using hk) aA rv;rw[kqdP];exact⟨as,.tuple h1 h2 h3 (by simpa using q)⟩
 |_,_,n+1,.lst (a:=a) hq rs,hk,u,r=>by
  cases(show u=Value.ref a from r);obtain⟨aA,rv,⟨o,m,h1,h2,_,h3⟩,_⟩:=I.list hq.sq;obtain⟨as,q⟩:=aF.reads I n rs (by simpa [kqdOk]using hk) aA rv;rw[kqdP];exact⟨_,.list h1 h2 h3 (by simpa using q)⟩
theorem aF.reads {pins:List (Addr×Obj)} {σ:L2.St} {H:Hp} {s:Shared} {Av:eX} (I:Inv X pins σ H s):∀{vs:List V} {ds:List Dat} (n:Nat),aF X.K H Av vs ds->(∀d∈ds,kqdOk n d=true)->∀us,Vals vs us->∃as,ReadsAll s.heap us (kqdPs ds) as
 |_,_,n,.nil,_,us,r=>by cases r;rw[kqdPs];exact⟨_,.nil⟩
 |_,_,n,.cons h t,hk,us,r=>by
  cases r with
  |cons r1 r2=>
   obtain⟨as,q⟩:=aS.reads I n h (hk _ (.head _)) _ r1;obtain⟨bs,p⟩:=aF.reads I n t (λd hm=>hk d (.tail _ hm)) _ r2;rw[kqdPs];exact⟨_,.cons q p⟩
end
theorem vN(d e:Dat)(h1:kqdOk 9 d=true)(h2:kqdOk 9 e=true):PyData.eqv (kqdP d) (kqdP e)=(oa d e):=by
 have q:=kqd_eqv 9 d e 9 h1 h2;by_cases hq:d=e
 ·rw[zO hq];exact q.mpr hq
 ·rw[zQ hq];exact eq_false_iff.mpr λx=>hq (q.mp x)
theorem jW(d:Dat)(h:kqdOk 9 d=true):SeqAt.shaped (kqdP d)=true:=by
 have l:=kqd_lay 9 d h;unfold SeqAt.shaped;rw[l.1,Bool.true_and];exact decide_eq_true (le_trans l.2 (by decide))
variable {e:Expr}
noncomputable def MC (K:Fg):R2:=λx y H Q=>∃Av d e,aS K H Av x d/\aS K H Av y e/\kqdOk 9 d=true/\kqdOk 9 e=true/\Q (.bl (oa d e)) H
noncomputable def Mz (K:Fg):R2:=λx y H Q=>∃Av d e,aS K H Av x d/\aS K H Av y e/\kqdOk 9 d=true/\kqdOk 9 e=true/\Q (.bl (!(oa d e))) H
theorem DM(hu:X.A.units+64<cLine):dF X (compareOp .Eq) (MC X.K):=by
 intro pins s σ H x y v u Q I rx ry h;obtain⟨Av,d,e,r1,r2,k1,k2,q⟩:=h;obtain⟨as,ra⟩:=r1.reads I 9 k1 v rx;obtain⟨bs,rb⟩:=r2.reads I 9 k2 u ry;exact eq_dataH ra rb (jW d k1) (jW e k2) hu ⟨.bl _,H,I,by rw[vN d e k1 k2];rfl,q⟩
theorem DJ(hu:X.A.units+64<cLine):dF X (compareOp .NotEq) (Mz X.K):=by
 intro pins s σ H x y v u Q I rx ry h;obtain⟨Av,d,e,r1,r2,k1,k2,q⟩:=h;obtain⟨as,ra⟩:=r1.reads I 9 k1 v rx;obtain⟨bs,rb⟩:=r2.reads I 9 k2 u ry;exact ne_dataH ra rb (jW d k1) (jW e k2) hu ⟨.bl _,H,I,by rw[vN d e k1 k2];rfl,q⟩
noncomputable def eqB:Dat->Dat->Option Bool:=open Classical in λx y=>match x,y with
 | .bool a,.bool b=>some (a==b)
 | .str a,.str b=>some (decide (a=b))
 |d,e=>if kqdOk 9 d=true/\kqdOk 9 e=true then some (oa d e)else none
noncomputable def d8:Dat->Dat->Option Dat:=λx y=>(eqB x y).map .bool
noncomputable def gi:Dat->Dat->Option Dat:=λx y=>(eqB x y).map λk=>.bool (!k)
theorem wV{x y:Dat}{k:Bool}(h:eqB x y=some k):(∃a b,x=.bool a/\y=.bool b/\k=(a==b))\/(∃a b,x=.str a/\y=.str b/\k=decide (a=b))\/(kqdOk 9 x=true/\kqdOk 9 y=true/\k=(oa x y)):=by
 unfold eqB at h;split at h
 ·cases h;exact .inl ⟨_,_,rfl,rfl,rfl⟩
 ·cases h;exact .inr (.inl ⟨_,_,rfl,rfl,by congr⟩)
 ·split at h
  ·rename_i hk;cases h;exact .inr (.inr ⟨hk.1,hk.2,rfl⟩)
  ·cases h
theorem DP{K:Fg}:kJ K (λx y H Q=>Rz x y H Q\/MC K x y H Q) d8:=by
 intro H Av x y dx dy d Q hA rx ry h q;obtain⟨k,e1,rfl⟩:=bT h;rcases wV e1 with⟨a,b,rfl,rfl,rfl⟩|⟨a,b,rfl,rfl,rfl⟩|⟨k1,k2,rfl⟩
 ·rw[rx.kI,ry.kI];exact .inl ⟨rfl,by rw[uL];exact q _ H (aO.refl H) (.bl _)⟩
 ·rw[rx.cy,ry.cy];exact .inl ⟨rfl,by
   have:decide (V.str a=V.str b)=decide (a=b):=by simp
   rw[this];exact q _ H (aO.refl H) (.bl _)⟩
 ·exact .inr ⟨Av,dx,dy,rx,ry,k1,k2,q _ H (aO.refl H) (.bl _)⟩
theorem DN{K:Fg}:kJ K (λx y H Q=>Ry x y H Q\/Mz K x y H Q) gi:=by
 intro H Av x y dx dy d Q hA rx ry h q;obtain⟨k,e1,rfl⟩:=bT h;rcases wV e1 with⟨a,b,rfl,rfl,rfl⟩|⟨a,b,rfl,rfl,rfl⟩|⟨k1,k2,rfl⟩
 ·rw[rx.kI,ry.kI];exact .inl ⟨rfl,by rw[uL];exact q _ H (aO.refl H) (.bl _)⟩
 ·rw[rx.cy,ry.cy];exact .inl ⟨rfl,by
   have:decide (V.str a=V.str b)=decide (a=b):=by simp
   rw[this];exact q _ H (aO.refl H) (.bl _)⟩
 ·exact .inr ⟨Av,dx,dy,rx,ry,k1,k2,q _ H (aO.refl H) (.bl _)⟩
noncomputable def Cw:List Dat->Option Dat
 |[.int i]=>some (.int (if i<0 then -i else i))
 |_=>none
theorem Fh{K:Fg}:kN K (λxs H Q=>∃i,xs=[.int i]/\Q (.int (if i<0 then -i else i)) H) Cw:=by
 intro H Av xs ds d Q hA r h q;unfold Cw at h;split at h
 ·cases h;obtain⟨v,rfl,rv⟩:=r.cJ;rw[rv.fH];exact⟨_,rfl,q _ H (aO.refl H) (.int _)⟩
 ·cases h
noncomputable def sM:List Dat->Option Dat
 |[.int i]=>if i.natAbs.log2<1920 then some (.str (toString i))else none
 |_=>none
theorem F7{K:Fg}:kN K (λxs H Q=>∃i,xs=[.int i]/\i.natAbs.log2<1920/\Q (.str (toString i)) H) sM:=by
 intro H Av xs ds d Q hA r h q;unfold sM at h;split at h
 ·split at h
  ·rename_i hz;cases h;obtain⟨v,rfl,rv⟩:=r.cJ;rw[rv.fH];exact⟨_,rfl,hz,q _ H (aO.refl H) (.str _)⟩
  ·cases h
 ·cases h
noncomputable def intD:List Dat->Option Dat
 |[.int i]=>some (.int i)
 |[.bool k]=>some (.int (if k then 1 else 0))
 |_=>none
theorem Fb{K:Fg}:kN K (λxs H Q=>(∃i,xs=[.int i]/\Q (.int i) H)\/∃k,xs=[.bl k]/\Q (.int (if k then 1 else 0)) H) intD:=by
 intro H Av xs ds d Q hA r h q;unfold intD at h;split at h
 ·cases h;obtain⟨v,rfl,rv⟩:=r.cJ;rw[rv.fH];exact .inl ⟨_,rfl,q _ H (aO.refl H) (.int _)⟩
 ·cases h;obtain⟨v,rfl,rv⟩:=r.cJ;rw[rv.kI];exact .inr ⟨_,rfl,q _ H (aO.refl H) (.int _)⟩
 ·cases h
noncomputable def dC:List Dat->Option Dat
 |[.str z]=>if z.length<=sizeLine then some (.int z.length)else none
 |[.list ds]=>some (.int ds.length)
 |[.tuple ds]=>some (.int ds.length)
 |_=>none
theorem F9{K:Fg}:kN K (λxs H Q=>∃x n,xs=[x]/\PJ K x H n/\Q (.int n) H) dC:=by
 intro H Av xs ds d Q hA r h q;unfold dC at h;split at h
 ·split at h
  ·rename_i hz;cases h;obtain⟨v,rfl,rv⟩:=r.cJ;rw[rv.cy];exact⟨_,_,rfl,⟨hz,rfl⟩,q _ H (aO.refl H) (.int _)⟩
  ·cases h
 ·cases h;obtain⟨v,rfl,rv⟩:=r.cJ;obtain⟨a,ys,rfl,hq,rs⟩:=rv.eZ;exact⟨_,_,rfl,.inl ⟨ys,hq.sq,rfl⟩,by rw[rs.length];exact q _ H (aO.refl H) (.int _)⟩
 ·cases h;obtain⟨v,rfl,rv⟩:=r.cJ;obtain⟨a,ys,rfl,hq,rs⟩:=rv.gI;exact⟨_,_,rfl,.inr ⟨ys,hq.sq,rfl⟩,by rw[rs.length];exact q _ H (aO.refl H) (.int _)⟩
 ·cases h
noncomputable def LQ:Dat->Option String
 | .none=>some "NoneType"| .bool _=>some "bool"| .int _=>some "int"| .str _=>some "str"| .tuple _=>some "tuple"| .list _=>some "list"
 | .bytes _=>none
theorem mR(K:Fg)(t T:String)(ht:t∈["NoneType","bool","int","str","tuple","list"])(hT:T∈["bool","int","str","tuple","list"]):kitOne K (.type t) (.type T)=some (decide (t=T) || (decide (t="bool")&&decide (T="int"))):=by
 simp only[mem_cons,not_mem_nil,or_false]at ht hT;rcases ht with rfl|rfl|rfl|rfl|rfl|rfl<;>rcases hT with rfl|rfl|rfl|rfl|rfl<;>rfl
noncomputable def ND (T:String):Dat->Option Dat:=λd=>(LQ d).bind λt=>if T∈["bool","int","str","tuple","list"]then some (.bool (decide (t=T) || (decide (t="bool")&&decide (T="int"))))else none
theorem Al(T:String):iK X (.builtin "isinstance") (λxs H Q=>∃Av x d dd,xs=[x,.ty T]/\aS X.K H Av x d/\ND T d=some (.bool dd)/\Q (.bl dd) H):=by
 intro pins s σ H xs us Q I r h;obtain⟨Av,x,d,dd,rfl,rd,hi,q⟩:=h;obtain⟨u,t,rfl,ru,rt⟩:=vals2 r;cases(show t=Value.type T from rt);obtain⟨ty,e1,hi⟩:=bind_some (show(LQ d).bind _=some (Dat.bool dd)from hi);split at hi
 ·rename_i hT;have O1:=(Option.some.inj hi).symm;injection O1 with vI;have fin:∀tk,EP X pins σ Q (.bool dd) {s with toks:=tk}:=λtk=>⟨.bl dd,H,I.tok tk,rfl,q⟩;cases rd with
  |bU=>cases e1;cases(show u=Value.none from ru);exact kia_one PySem.W.kitx_none I.jE True.intro (by rw[mR _ _ _ (by simp) hT,vI]) (λz=>nomatch z) fin
  |bl y=>cases e1;cases(show u=Value.bool y from ru);exact kia_one PySem.W.kitx_bool I.jE True.intro (by rw[mR _ _ _ (by simp) hT,vI]) (λz=>nomatch z) fin
  |int i=>cases e1;obtain⟨t,z⟩:=(show ∃t,u=Value.int i t from ru);cases z;exact kia_one PySem.W.kitx_int I.jE True.intro (by rw[mR _ _ _ (by simp) hT,vI]) (λz=>nomatch z) fin
  |str y=>cases e1;obtain⟨t,z⟩:=(show ∃t,u=Value.str y t from ru);cases z;exact kia_one PySem.W.kitx_str I.jE True.intro (by rw[mR _ _ _ (by simp) hT,vI]) (λz=>nomatch z) fin
  | @lst a xs ds hq rs=>
   cases e1;cases(show u=Value.ref a from ru);obtain⟨aA,_,⟨o,m,h1,h2,_⟩,_⟩:=I.list hq.sq;exact kia_one PySem.W.kitx_list I.jE ⟨o,h1,h2⟩ (by rw[mR _ _ _ (by simp) hT,vI]) (λz=>nomatch z) fin
  | @tup a xs ds hq rs=>
   cases e1;cases(show u=Value.ref a from ru);obtain⟨aA,_,⟨o,h1,h2,_⟩,_⟩:=I.tuple hq.sq;exact kia_one PySem.W.kitx_tuple I.jE ⟨o,h1,h2⟩ (by rw[mR _ _ _ (by simp) hT,vI]) (λz=>nomatch z) fin
 ·cases hi
theorem Hj{r:Dat}(h:ND T d=some r):∃k,r=.bool k:=by
 obtain⟨t,e1,h⟩:=bind_some (show(LQ d).bind _=some r from h);split at h
 ·cases h;exact⟨_,rfl⟩
 ·cases h
noncomputable def bu:Dat->Dat->Option Dat:=λx y=>match x,y with
 | .list ds,.int i=>iZ ds i
 | .tuple ds,.int i=>iZ ds i
 |_,_=>none
theorem aF.iZ{K:Fg}{i:Int}(r:aF K H Av vs ds)(h:L2.iZ ds i=some d):∃v,L2.iZ vs i=some v/\aS K H Av v d:=by
 unfold L2.iZ at h ⊢;rw[r.length];obtain⟨j,e1,h⟩:=bind_some h;obtain⟨v,hv,rv⟩:=r.get h;exact⟨v,by rw[e1];exact hv,rv⟩
noncomputable def cutD (ds:List Dat) (lo hi:Option Int):List Dat:=(ds.drop (HT.cG ds.length 0 lo)).take (HT.cG ds.length ds.length hi-HT.cG ds.length 0 lo)
noncomputable def Rj (K:Fg) (f:ay->Option (Option Int)):TO:=λσ H Q=>∃Av ρ o,ij H Av/\fD K H Av σ ρ/\f ρ=some o/\∀H',aO H H'->Q o H'
abbrev SW (X:Cx) (e:Option Expr) (f:ay->Option (Option Int)):Prop:=PO X e (Rj X.K f)
theorem AY{o:Option Expr}{t t':TO}(h:PO X o t)(m:∀σ H Q,t' σ H Q->t σ H Q):PO X o t':=λpins s σ H Q I q=>h pins s σ H Q I (m σ H Q q)
noncomputable def kg:Dat->Option Int
 | .int i=>some i
 |_=>none
theorem HV{b:Int}(h:kg d=some b):d=.int b:=by
 cases d<;>first|(cases h;done)|(simp only[kg,Option.some.injEq]at h;rw[h])
noncomputable def eE:ay->Option (Option Int):=λ_=>some none
noncomputable def dI (f:ay->Option Dat):ay->Option (Option Int):=λρ=>(f ρ).bind λd=>(kg d).map some
noncomputable def gf (cap:List (Option Nat)) (ρ:ay):ay:=cap.map λo=>o.bind λj=>(ρ[j]?).join
noncomputable def cL (gt:Dat->Option dH) (ft:ay->Option Bool) (fe:ay->Option Dat) (ρ0:ay):List Dat->Option (List Dat)
 |[]=>some []
 |d::r=>(gt d).bind λas=>(ft (j5 ρ0 as)).bind λc=>if c=true then(fe (j5 ρ0 as)).bind λv=>(cL gt ft fe ρ0 r).map (v::·)else cL gt ft fe ρ0 r
noncomputable def d7 (cap:List (Option Nat)) (gt:Dat->Option dH) (ft:ay->Option Bool) (fe:ay->Option Dat) (fi:ay->Option Dat):ay->Option (List Dat):=λρ=>(fi ρ).bind λd=>(j8 d).bind λds=>if ds.length<sizeLine then cL gt ft fe (gf cap ρ) ds else none
theorem fD.cap{K:Fg}(h:fD K H Av σ ρ)(cap:List (Option Nat)):fD K H Av (cn cap σ) (gf cap ρ):=λi d e=>by
 unfold gf at e;rw[getElem?_map]at e;cases hc:cap[i]? with
 |none=>rw[hc]at e;cases e
 |some o=>
  rw[hc]at e;cases o with
  |none=>cases e
  |some j=>
   have e2:some ((ρ[j]?).join)=some (some d):=e;obtain⟨v,hv,r⟩:=h j d (join_some (Option.some.inj e2));refine⟨v,?_,r⟩;unfold cn;rw[getElem?_map,hc];show some ((σ[j]?).join)=_;rw[hv];rfl
theorem fD.gJ{K:Fg}(h:ll K H Av ws as)(hl:σ.length=ρ.length)(E:fD K H Av σ ρ):fD K H Av (o4 σ ws) (j5 ρ as):=by
 induction h generalizing σ ρ with
 |nil=>exact E
 | @cons i v d vs ds h r ih=>
  refine ih (σ:=σ.set i (some v)) (ρ:=ρ.set i (some d)) (by rw[length_set,length_set];exact hl) λj d' e=>?_;have lO:=j9 e;rw[length_set]at lO;rcases bO e with⟨e1,q⟩|⟨e1,q⟩
  ·subst e1;cases q;exact⟨v,getElem?_set_self (by rw[hl];exact lO),h⟩
  ·obtain⟨u,a,b⟩:=E j d' q;exact⟨u,by rw[getElem?_set_ne (Ne.symm e1)];exact a,b⟩
theorem fg.refl:∀(a:L2.St),fg a a
 |[]=>trivial
 |none::a=>fg.refl a
 |some v::a=>⟨rfl,fg.refl a⟩
theorem fg.set:∀{a b:L2.St} {i:Nat} {x:Option V},fg a b->a[i]?=some none->fg a (b.set i x)
 |none::a,_::b,0,x,h,_=>h
 |some v::a,_::b,0,x,h,e=>by simp at e
 |none::a,_::b,i+1,x,h,e=>fg.set (a:=a) (b:=b) (i:=i) h (by simpa using e)
 |some v::a,_::b,i+1,x,h,e=>⟨h.1,fg.set (a:=a) (b:=b) (i:=i) h.2 (by simpa using e)⟩
 |[],_,_,_,_,e=>by simp at e
 |none::_,[],_,_,h,_=>h.elim
 |some _::_,[],_,_,h,_=>h.elim
theorem fg.gJ{K:Fg}{a b:L2.St}(h:ll K H Av ws as)(hs:∀p∈as,a[p.1]?=some none)(l:fg a b):fg a (o4 b ws):=by
 induction h generalizing b with
 |nil=>exact l
 | @cons i v d vs ds h r ih=>exact ih (λp hp=>hs p (mem_cons_of_mem _ hp)) (fg.set l (hs _ mem_cons_self))
def mh (gt:Dat->Option dH) (cap:List (Option Nat)):Prop:=∀d as,gt d=some as->∀p∈as,cap[p.1]?=some none
theorem cY{cap:List (Option Nat)}(h:cap[i]?=some none):mh (aName i) cap:=λd as e p hp=>by
 cases e;have:p=(i,d):=by simpa using hp
 subst this;exact h
variable {fe:ay->Option Dat}
theorem JY{K:Fg}{cap:List (Option Nat)}{fi:ay->Option Dat}(ht:mh gt cap):∀σ H Q,kP K (d7 cap gt ft fe fi) σ H Q->nM cap (Hk K (tF K fi)) (iN K gt) (jT K ft) (tF K fe) σ H Q:=by
 rintro σ H Q ⟨Av,ρ,out,hA,hE,hf,q⟩;obtain⟨d,e1,hf⟩:=bind_some hf;obtain⟨ds,e2,hf⟩:=bind_some hf;split at hf
 ·rename_i hz;refine⟨Av,ρ,d,hA,hE,e1,λx H1 s1 r=>?_⟩;have main:∀J:It,Over K J x d ds->∃W:Nat->Nat->List V->Hp->Prop,(∃m,W 0 m [] H1)/\∀i m ys H,W i m ys H->ys.length<sizeLine/\
    ((J.stop i H/\∀D,H D=none->Q (.ref D) (upd H D (.lst ys)))\/
     (J.go i H/\∀x H',J.oh i H x H'->iN K gt x (cn cap σ) H' λdU H2=>fg (cn cap σ) dU/\jT K ft dU H2 λb H3=>if b=true then tF K fe dU H3 λv H4=>∃m',m'<m/\W (i+1) m' (ys++[v]) H4 else ∃m',m'<m/\W (i+1) m' ys H3)):=by
   intro J ov;refine⟨λi m ys H2=>m=ds.length-i/\i<=ds.length/\aO H1 H2/\∃o1 o2,aF K H2 Av ys o1/\o1.length<=i/\cL gt ft fe (gf cap ρ) (ds.drop i)=some o2/\out=o1++o2,
    ⟨_,rfl,zero_le _,aO.refl _,[],out,.nil,le_refl _,by rw[drop_zero];exact hf,rfl⟩,?_⟩
   rintro i m ys H2 ⟨rfl,hi,s2,o1,o2,ro,hl,hc,rfl⟩;refine⟨by have:=ro.length;omega,?_⟩;have rx:=r.same s2;cases gO:ds[i]? with
   |none=>
    have hle:ds.length<=i:=List.getElem?_eq_none_iff.mp gO;rw[drop_eq_nil_of_le hle]at hc;cases hc;refine .inl ⟨(ov i H2 _ rx).1 hle,λD hD=>q H2 D ys (s1.trans s2) hD (by rw[append_nil];exact ro)⟩
   |some di=>
    have lO:=j9 gO;rw[drop_cons gO]at hc;obtain⟨as,a1,hc⟩:=bind_some (show(gt di).bind _=some o2 from hc);obtain⟨k,a2,hc⟩:=bind_some hc;obtain⟨go,yl⟩:=(ov i H2 _ rx).2 di gO;refine .inr ⟨go,λy H' hy=>?_⟩;obtain⟨eH,ry⟩:=yl y H' hy;subst eH;refine⟨Av,di,as,ry,a1,λws hw=>?_⟩;have cs:∀p∈as,(cn cap σ)[p.1]?=some none:=λp hp=>by
     unfold cn;rw[getElem?_map,ht di as a1 p hp];rfl
    have A2:=hA.same (s1.trans s2);have E2:fD K H' Av (o4 (cn cap σ) ws) (j5 (gf cap ρ) as):=fD.gJ hw (by unfold cn gf;rw[length_map,length_map]) ((hE.same (s1.trans s2)).cap cap);refine⟨fg.gJ hw cs (fg.refl _),Av,_,k,A2,E2,a2,λH3 s3=>?_⟩;cases k with
    |false=>
     rw[if_neg Bool.false_ne_true]at hc ⊢;exact⟨ds.length-(i+1),by omega,rfl,by omega,s2.trans s3,o1,o2,ro.same s3,by omega,hc,rfl⟩
    |true=>
     rw[if_pos rfl]at hc ⊢;obtain⟨dv,a3,hc⟩:=bind_some hc;obtain⟨o3,a4,hc⟩:=bT hc;subst hc;refine⟨Av,_,dv,A2.same s3,E2.same s3,a3,λv H4 s4 rv=>⟨ds.length-(i+1),by omega,rfl,by omega,s2.trans (s3.trans s4),o1++[dv],o3,(ro.same (s3.trans s4)).append (.cons rv .nil),?_,a4,?_⟩⟩
     ·rw[length_append,length_singleton];omega
     ·rw[append_assoc];rfl
  cases d with
  |list jH=>
   cases e2;obtain⟨a,xs,rfl,hq,rs⟩:=r.eZ;exact⟨a,rfl,.inl ⟨⟨xs,hq.sq⟩,main _ lK⟩⟩
  |tuple jH=>
   cases e2;obtain⟨a,xs,rfl,hq,rs⟩:=r.gI;exact⟨a,rfl,.inr ⟨⟨xs,hq.sq⟩,main _ nq⟩⟩
  |_=>cases e2
 ·cases hf
noncomputable def fL (f:ay->Option (List Dat)):ay->Option Dat:=λρ=>(f ρ).map .list
noncomputable def cQ:ay->Option Bool:=λ_=>some true
open PySem PySem.Spec PyProof.Rows L2
open PySem.W (Dat kqdOk)
variable {fs:ay->Option (List Dat)} in
noncomputable def Gn (i j:Nat) (fs:ay->Option (List Dat)):aD->Option Fl:=λΓ=>(fs (dD Γ)).bind λds=>match ds with
 |[d,d']=>some (.nx ((Γ.set i (some (.ag d))).set j (some (.ag d'))))
 |_=>none
noncomputable def kn:List Dat->Option (List Str)
 |[]=>some []
 | .str x::r=>(kn r).map (x::·)
 |_::_=>none
noncomputable def mB:Dat->List Dat->Option Dat:=λx as=>match x,as with
 | .str x,[.list ds]=>(kn ds).bind λys=>if(ys.map (·.length)).sum+ys.length*x.length<=16777216 then some (.str (Txt.join x ys))else none
 |_,_=>none
theorem dO{K:Fg}{H:Hp}{Av:eX}:∀{vs:List V} {ds:List Dat} {ys:List Str} {us:List Value},aF K H Av vs ds->kn ds=some ys->Vals vs us->StrsAre us ys
 |_,_,_,_,.nil,e,r=>by cases e;cases r;exact .nil
 |_,_,_,_,.cons h t,e,r=>by
  cases h with
  |str x=>
   obtain⟨zs,e1,e2⟩:=bT (show(kn _).map _=some _ from e);subst e2;cases r with
   |cons r1 r2=>
    obtain⟨tk,rfl⟩:=r1;exact .cons _ tk (dO t e1 r2)
  |_=>cases e
noncomputable def rJoin (K:Fg):V->List V->Hp->VK->Prop:=λx xs H Q=>∃Av z p vs ds ys,x=.str z/\xs=[.ref p]/\fF K H p vs/\aF K H Av vs ds/\kn ds=some ys/\(ys.map (·.length)).sum+ys.length*z.length<=16777216/\Q (.str (Txt.join z ys)) H
theorem KS:v9 X "str.join" (rJoin X.K):=by
 intro pins s σ H x xs v us Q I rx rv h;obtain⟨Av,z,p,vs,ds,ys,rfl,rfl,hq,rs,hy,hz,q⟩:=h;obtain⟨t,rfl⟩:=rx;obtain⟨u,rfl,ru⟩:=vals1 rv;cases ru;obtain⟨aA,r,pl,_⟩:=I.list hq;exact join_list pl.isList (dO rs hy (by simpa using r)) hz λt' k=>⟨.str _,H,I.tok k,⟨t',rfl⟩,q⟩
variable {fs:ay->Option (List Dat)} in
noncomputable def fP (g:Dat->List Dat->Option Dat) (f:ay->Option Dat) (fs:ay->Option (List Dat)):ay->Option Dat:=λρ=>(f ρ).bind λd=>(fs ρ).bind λds=>g d ds
variable {scope:Scope} {N':List Str}
theorem eW(hf:∀y∈scope.names,y.2≠.free:=by decide +kernel)(hc:∀y∈scope.names,y.2≠.cell:=by decide +kernel)(hk:scope.kind=.function:=by rfl)(hn:∀y∈scope.names,y.2=.local->scope.names.lookup y.1=some .local:=by decide +kernel)(nd:N'.Nodup:=by decide +kernel):pU X scope [] N' (N'.map λ_=>none):=by
 have rl:(relabel scope X.env).names=scope.names:=by
  unfold relabel;exact map_eq_self (l:=scope.names) λx hx=>by
   obtain⟨n,k⟩:=x;have:(k==NameKind.free)=false:=by simpa using hf _ hx
   simp[this]
 refine⟨closureFor_none hf,hc,hk,hn,nd,by rw[length_map],λx c h=>(by cases h),λx h=>?_,λi x j e1 e2=>?_⟩
 ·rw[rl]at h;rcases h with h|h
  ·exact absurd rfl (hc _ (PySem.mem_of_lookup h))
  ·exact absurd rfl (hf _ (PySem.mem_of_lookup h))
 ·rw[getElem?_map]at e2;cases h:N'[i]? with
  |none=>rw[h]at e2;cases e2
  |some y=>rw[h]at e2;cases e2
noncomputable def xy (K:Fg):Sp:=λvs H Q _=>∃(a:Addr) (ns:List Int),vs=[.ref a]/\fF K H a (ns.map V.int)/\ns.length<=63/\∀H',Q (.bl true) H'
theorem Nv{K:Fg}{k:Nat}{f:Addr}(h:gg P w K mg base j0 k f fd ps (AG K 1 F))(hF:∀ns:List Int,ns.length<=63->F [.list (ns.map .int)]=some (.bool true)):gg P w K mg base j0 k f fd ps (xy K):=
 h.imp λvs H Q E aT=>by
  obtain⟨a,ns,e,hS,hl,q⟩:=aT;subst e;refine⟨λ_=>False,[.list (ns.map .int)],.bool true,λ_ z=>z.elim,.cons (.lst ?_ (aF.ints ns)) .nil,rfl,hF ns hl,λv H' _ r=>by rw[r.kI];exact q H'⟩;rcases hS with h|h
  ·exact .inl ⟨h,λz=>z⟩
  ·exact .inr h
theorem Q6{l:PySem.W.OpenLaw}{q:Program}{loose:List Str}{XP:(Str->Option Value)->Heap->Prop}{YP:World->Heap->Prop}{d:DefRec}{K:Params->Fg}{k:Nat}(hk:k<=100)(hn:l.most=some 63)(Et:d.params.defaults=[])(hY:∀(w:World) (h:Heap),YP w h->(K w.params).In h)(F:∀(w:World) (mg:Str->Option Value) (fa:Addr) (h:Heap),(K w.params).In h->h.Ns mainGlobals mg->mg d.name=some (.ref fa)->
   ∃fd:FuncData,(∀(s:Shared) (u:Value),BindsTo s fd ⟨[u],[]⟩ [("script",u)])/\∀base:Heap,(K w.params).In base->base.Ns mainGlobals mg->gg l.prog w (K w.params) mg base j0 100 fa fd ["script"] (xy (K w.params))):
  PySem.W.WalkO q loose XP YP l.row.toRowW d [] (λf vs=>PySem.call f vs):=
 L2.JV (n:=63) (k:=100) (x:="script") (CX:=λ_=>j0) (sp:=λw=>xy (K w.params)) hn (by decide) Et ⟨rfl,by decide,by decide⟩ hY F (λ_ _ a ns hl _ hS=>⟨a,ns,rfl,hS,hl,λ_=>rfl⟩) λ_ _ _ _ _ z=>z
open PySem PySem.Spec PyProof.Rows L2
open PySem.W (Dat kqdOk)
noncomputable def IA (K:Fg):R2:=λx y H Q=>∃l b xs zs,x=.ref l/\y=.ref b/\fF K H l xs/\fF K H b zs/\xs.length+zs.length<=sizeLine/\∀p,H p=none->Q (.ref p) (upd H p (.lst (xs++zs)))
theorem l8:dF X (binaryOp .Add) (IA X.K):=by
 intro pins s σ H x y v u Q I rx ry h;obtain⟨l,b,xs,zs,rfl,rfl,hH,hB,hz,q⟩:=h;cases rx;cases ry;obtain⟨aA,r,⟨⟨cls,dd,data,sl⟩,n,ho,hc,WM,hd⟩,_⟩:=I.list hH;obtain⟨o8,r2,⟨⟨V3,wX,data2,qd⟩,n2,uz,Ew,hd02,hd2⟩,_⟩:=I.list hB;simp only at hc hd Ew hd2;subst hc hd Ew hd2;have h1:=r.length;have h2:=r2.length;have e:aA.toArray++o8.toArray=(aA++o8).toArray:=by simp
 refine PySem.concat_meets ⟨_,ho,rfl⟩ ⟨_,uz,rfl⟩ PySem.noFill_list_add PySem.seq_list_add PySem.F.slot_list_add PySem.F.entry_list_add (PySem.F.args_list_add_2 _ _) (list_addW l b aA.toArray o8.toArray n n2 dd wX sl qd (by rw[size_toArray,size_toArray];omega)) ⟨ho,uz,?_⟩;rw[e];exact⟨.ref _,_,I.Nt (t':=s.toks) (r.append r2) (by rw[length_append];omega),rfl,q _ I.fresh⟩
end
end L3
namespace L2
noncomputable section
open PySem PySem.Spec PyProof.Rows
noncomputable def CU (i:Nat) (cap:List (Option Nat)) (wi:TI) (g:TG) (jA:TT) (te:TE):TS:=λD σ H=>nM cap wi g jA te σ H λv H'=>D.nx (σ.set i (some v)) H'
variable {X:Cx} {elt tg iter:Expr} {ifs:List Expr} {scope:Scope} {own:Option Str} {cl:List (Str×Addr)} {pos sN pos':Pos} {N':List Str} {wi:TI} {jA:TT} {te:TE} {x:Str}
theorem GL{cap:List (Option Nat)}{g:TG}{iz:Nat}(hc:X.calm=true)(B:vY X scope own cl N' cap)(hi:PI X tg iter wi)(hg:∀C aC aq ex,PG (ie X scope own cl N' C aC aq ex) tg g)(ht:∀C aC aq ex,qU (ie X scope own cl N' C aC aq ex) ifs jA)(he:∀C aC aq ex,PE (ie X scope own cl N' C aC aq ex) elt te)(hN:X.N.Nodup)(Ek:X.N[iz]?=some x)(hx:Loc X.env.scope x)(wK:swapsWith (.ListComp elt [⟨tg,iter,ifs,0⟩] scope pos) (some (.Name x pos')) sN.line X.env=pure true)(oD:X.fn x=true\/X.env.scope.names.lookup x=some .local)(hs:∀x,foldedSetIterable iter X.env x=pure x:=by intro _;rfl):
  PS X (.Assign [.Name x pos'] (.ListComp elt [⟨tg,iter,ifs,0⟩] scope pos) sN) (CU iz cap wi g jA te):=by
 intro pins s σ H DD I h;rw[exec_Assign_Name_used _ _ _ _ wK];refine wpAny_bind (wpAny_standAt (wpAny_bind ?_));show wpAny _ X.A (do let _ <- comprehension (.ListComp elt [⟨tg,iter,ifs,0⟩] scope pos) scope X.env _ (newList []) false (eval iter X.env) (some (assign (.Name x pos') X.env))) _ _ s
 refine wpAny_bind (wpAny_mono (wpAny_comprehension_free (use:=some (assign (.Name x pos') X.env)) (Q:=λ_ s'=>SP X pins DD .next s') rfl hs B.clos B.kind B.names (bP (hi pins s σ H _ I h) λxv bX fN=>bP fN λEb bx nz=>?_)) (λ_ s' hq=>wpAny_pure (wpAny_pure hq)) λ_ _ e=>e)
 obtain⟨it,fp,tn,J,H2,e,I2,T,lF,f2,W,⟨m0,w0⟩,turn⟩:=nz;subst e;refine uN (RR:=λacc C=>compPost (model X.prog X.w) X.A X.xe (some (assign (.Name x pos') X.env)) (λ_ s'=>SP X pins DD .next s') acc C) (Q:=λv H'=>DD.nx (σ.set iz (some v)) H') hc B hg ht he I2 T lF f2 w0 turn λD C s4 H' ys aA k hD fW l9 Ic iq rv hsz qn=>?_
 obtain⟨m,hn,_⟩:=Ic.loc;have zB:s4.heap.get? D=some {cls:=.type "list",data:=.seq aA.toArray k}:=(Ic.pin (D,_) (by simp)).1;have zC:H' C=none:=Ic.free;have un:Un (frs X.stack) fp H2 (upd H' D (.lst ys)) bx.heap s4.heap:=by
  have bs:=Ic.base;refine⟨λb o e n h1 h2=>bs.keep b o e n h1 h2,λb o e n h1 h2=>bs.slot b o e n h1 h2,λb o e n h2=>?_,λb o e h2=>bs.there b o e h2,λb xs e=>?_,λb o u e=>?_,λb ps e=>?_⟩
  ·have:b<D:=by rw[<- hD];exact lt_size e
   rw[bF (ne_of_lt this)];exact bs.free b o e n h2
  ·have q:=bs.tups b xs e;rw[bF (aU q iq)];exact q
  ·have q:=bs.frzs b o u e;rw[bF (aU q iq)];exact q
  ·obtain⟨more,q⟩:=bs.tbls b ps e;exact⟨more,by rw[bF (aU q iq)];exact q⟩
 have hok:gA X.prog X.w (upd H' D (.lst ys)) s4.heap:=λb u e=>by
  by_cases hb:b=D
  ·subst hb;rw[d5]at e;cases e;exact⟨le_of_lt hsz,aA,k,rv,zB⟩
  ·rw[bF hb]at e;exact(Ic.hok b u e).mW (λc v uD q=>q) (λc q=>by rw[bF (aU q iq)];exact q) λc xs q=>by rw[bF (aU q iq)];exact q
 have If:=I2.uP (s':=s4) (H':=upd H' D (.lst ys)) (ch:=fp) Ic.os un hok Ic.bare λb hb=>⟨(f2 b hb).2.2.2.1,(f2 b hb).2.1,(f2 b hb).2.2.2.2.1,(f2 b hb).2.2.2.2.2⟩;have Sd:C≠X.env.locals:=ne_of_gt (lt_of_lt_of_le (by rw[<- hD];exact I2.lt) fW);have Se:∀y c,X.env.cells.lookup y=some c->c≠C:=λy c e=>by
  obtain⟨v,q⟩:=I2.cell y c e;exact ne_of_lt (lt_of_lt_of_le (by rw[<- hD];exact q.lt) fW)
 refine wpAny_assign_Name (w9 If hN Ek hx (v:=.ref D) rfl (λs5 I5 nD=>?_) oD);obtain⟨aa,UK,WR⟩:=nD;have X3:C≠aa:=by
  rcases WR with z|z
  ·rw[z];exact Sd
  ·exact Ne.symm (Se x aa z)
 refine⟨m,hn.sameBut UK X3,λh' kC=>?_⟩;have X4:upd H' D (.lst ys) C=none:=by rw[bF (Ne.symm l9)];exact zC
 have I6:Inv X pins (σ.set iz (some (.ref D))) (upd H' D (.lst ys)) {s5 with heap:=h',toks:=s5.toks}:=I5.turned (it:=C) (λb o hb e=>(kC.2 b hb).trans e) X4 Sd (.inr (le_trans I2.sz (by rw[hD];exact fW))) Se (λp hp z=>by
  have h1:=(I2.pin p hp).1;have h2:p.1<D:=by rw[<- hD];exact lt_size h1
  exact absurd z (ne_of_lt (lt_of_lt_of_le h2 fW)))
 exact⟨_,_,I6,qn D iq⟩
theorem Ku{cap:List (Option Nat)}{g:TG}{iz:Nat}(hc:X.calm=true)(B:pU X scope cl N' cap)(hi:PI X tg iter wi)(hg:∀C aC aq ex,PG (kX X scope cl N' C aC aq ex) tg g)(ht:∀C aC aq ex,qU (kX X scope cl N' C aC aq ex) ifs jA)(he:∀C aC aq ex,PE (kX X scope cl N' C aC aq ex) elt te)(hN:X.N.Nodup)(Ek:X.N[iz]?=some x)(hx:Loc X.env.scope x)(wK:swapsWith (.ListComp elt [⟨tg,iter,ifs,0⟩] scope pos) (some (.Name x pos')) sN.line X.env=pure true)(oD:X.fn x=true\/X.env.scope.names.lookup x=some .local)(hs:∀x,foldedSetIterable iter X.env x=pure x:=by intro _;rfl):
  PS X (.Assign [.Name x pos'] (.ListComp elt [⟨tg,iter,ifs,0⟩] scope pos) sN) (CU iz cap wi g jA te):=GL (own:=none) hc B.g hi hg ht he hN Ek hx wK oD hs
end
end L2
namespace L3
noncomputable section
open PySem PySem.Spec PyProof.Rows L2
open PySem.W (Dat kqdOk)
noncomputable def tX (i:Nat) (f:ay->Option (List Dat)):aD->Option Fl:=λΓ=>(f (dD Γ)).map λds=>.nx (Γ.set i (some (.ag (.list ds))))
theorem wG{f:Str->Addr}:∀{fv:List Str} {y:Str},y∈fv->(fv.map λx=>(x,f x)).lookup y=some (f y)
 |x::r,y,h=>by
  rw[map_cons,lookup_cons];by_cases e:y=x
  ·subst e;simp
  ·have:(y==x)=false:=by simpa using e
   rw[this];exact wG (by simpa [e]using h)
theorem qt{f:Str->Addr}:∀{fv:List Str} {y:Str} {c:Addr},(fv.map λx=>(x,f x)).lookup y=some c->y∈fv/\c=f y
 |[],y,c,h=>by simp at h
 |x::r,y,c,h=>by
  rw[map_cons,lookup_cons]at h;by_cases e:y=x
  ·subst e;simp at h;exact⟨mem_cons_self,h.symm⟩
  ·have:(y==x)=false:=by simpa using e
   rw[this]at h;obtain⟨h1,h2⟩:=qt h;exact⟨mem_cons_of_mem _ h1,h2⟩
variable {X:Cx} {scope:Scope}
theorem iU{tn fv:List Str}{js:List Nat}(uC:closureFor scope X.env=pure (fv.map λx=>(x,(X.env.cells.lookup x).getD 0)))(hf:∀y∈scope.names,y.2=.free->y.1∈fv)(hc:∀y∈scope.names,y.2≠.cell)(hk:scope.kind=.function)(hn:∀y∈scope.names,y.2=.local->scope.names.lookup y.1=some .local)(nd:(tn++fv).Nodup)(hl:fv.length=js.length)(hs:∀x∈fv,∃c,X.env.cells.lookup x=some c)(hj:∀p∈fv.zip js,X.N[p.2]?=some p.1/\oN X.env.scope p.1/\((relabel scope X.env).names.lookup p.1=some .cell\/(relabel scope X.env).names.lookup p.1=some .free)/\X.env.scope.names.lookup p.1≠some .local):
  pU X scope (fv.map λx=>(x,(X.env.cells.lookup x).getD 0)) (tn++fv) ((tn.map λ_=>none)++js.map some):=by
 refine⟨uC,hc,hk,hn,nd,by rw[length_append,length_append,length_map,length_map,hl],λy c h=>?_,λy h=>?_,λi x j e1 e2=>?_⟩
 ·obtain⟨h1,h2⟩:=qt h;obtain⟨c',e⟩:=hs y h1;rw[h2,e];rfl
 ·have hm:(y,NameKind.cell)∈(relabel scope X.env).names\/(y,NameKind.free)∈(relabel scope X.env).names:=h.elim (λz=>.inl (PySem.mem_of_lookup z)) λz=>.inr (PySem.mem_of_lookup z);have:y∈fv:=by
   rcases hm with hm|hm;all_goals
    obtain⟨⟨n,k⟩,hp,e⟩:=mem_map.mp hm;dsimp only at e;split at e
    ·rename_i QP;have hk:k=.free:=by
      cases k<;>first|rfl|(simp at QP)
     first
      |(cases e;done)
      |(cases e;exact hf _ hp hk)
    ·first
      |(cases e;done)
      |(cases e;exact absurd rfl (hc _ hp))
      |(cases e;exact hf _ hp rfl)
  exact⟨_,wG this⟩
 ·by_cases hi:i<tn.length
  ·rw[getElem?_append_left (by rw[length_map];exact hi),getElem?_map,getElem?_eq_getElem hi]at e2;cases e2
  ·rw[getElem?_append_right (by omega)]at e1;rw[getElem?_append_right (by rw[length_map];omega),length_map,getElem?_map]at e2;cases ej:js[i-tn.length]? with
   |none=>rw[ej]at e2;cases e2
   |some j'=>
    rw[ej]at e2;cases e2;refine hj (x,j) ?_;have h1:=(List.getElem?_eq_some_iff.mp e1);have h2:=(List.getElem?_eq_some_iff.mp ej);have h3:(fv.zip js)[i-tn.length]?=some (x,j):=by rw[List.getElem?_zip_eq_some];exact⟨e1,ej⟩
    exact List.mem_of_getElem? h3
open PySem PySem.Spec PyProof.Rows L2
open PySem.W (Dat kqdOk)
noncomputable def f9:Dat->Bool
 | .none=>true| .bool _=>true| .int _=>true| .str _=>true
 |_=>false
variable {a b:Expr}
noncomputable def kT:Dat->Dat->Bool
 | .none,.none=>true
 | .bool a,.bool b=>a==b
 | .bool a,.int b=>(if a then 1 else 0)==b
 | .int a,.bool b=>a==(if b then 1 else 0)
 | .int a,.int b=>a==b
 | .str a,.str b=>a==b
 |_,_=>false
variable {H:Hp} {Av:eX} {v:V} {d:Dat}
theorem aS.flat{K:Fg}(r:aS K H Av v d)(h:f9 d=true):gY v=true:=by
 cases r<;>first|rfl|cases h
theorem aS.kT{K:Fg}{u:V}{e:Dat}(r:aS K H Av v d)(q:aS K H Av u e)(h:f9 d=true)(k:f9 e=true):lR v u=L3.kT d e:=by
 cases r<;>cases q<;>first|rfl|cases h|cases k
theorem aF.flat{K:Fg}{H:Hp}{Av:eX}:∀{vs:List V} {ds:List Dat},aF K H Av vs ds->ds.all f9=true->vs.all gY=true
 |_,_,.nil,_=>rfl
 |_,_,.cons r t,h=>by
  simp only[all_cons,and_eq_true]at h ⊢;exact⟨r.flat h.1,t.flat h.2⟩
theorem aF.Eg{K:Fg}{H:Hp}{Av:eX}{x:V}{dx:Dat}(rx:aS K H Av x dx)(hx:f9 dx=true):∀{vs:List V} {ds:List Dat},aF K H Av vs ds->ds.all f9=true->uy x vs=ds.any λy=>kT y dx
 |_,_,.nil,_=>rfl
 |_,_,.cons r t,h=>by
  simp only[all_cons,and_eq_true]at h;unfold uy;rw[any_cons,any_cons,r.kT rx h.1 hx];have:=aF.Eg rx hx t h.2;unfold uy at this;rw[this]
noncomputable def IX:Dat->Dat->Option Bool:=λx y=>match y with
 | .list ds=>if f9 x=true/\ds.all f9=true then some (ds.any λz=>kT z x)else none
 | .tuple ds=>if f9 x=true/\ds.all f9=true then some (ds.any λz=>kT z x)else none
 | .str j=>match x with
  | .str i=>some (!(Builtin.Str.occurrences j i 0 j.length 1).isEmpty)
  |_=>none
 |_=>none
noncomputable def inD:Dat->Dat->Option Dat:=λx y=>(IX x y).map .bool
noncomputable def f7:Dat->Dat->Option Dat:=λx y=>(IX x y).map λk=>.bool (!k)
theorem DO{K:Fg}:kJ K (λx y H Q=>Iw K false x y H Q\/(∃i j,x=.str i/\y=.str j/\Q (.bl (!(Builtin.Str.occurrences j i 0 j.length 1).isEmpty)) H)) inD:=by
 intro H Av x y dx dy d Q hA rx ry h q;obtain⟨k,e1,rfl⟩:=bT h;unfold IX at e1;split at e1
 ·split at e1
  ·rename_i ds hc;cases e1;obtain⟨p,xs,rfl,hq,rs⟩:=ry.eZ;refine .inl ⟨p,xs,rfl,.inl hq.sq,rx.flat hc.1,rs.flat hc.2,?_⟩;show Q (.bl (uy x xs)) H;rw[aF.Eg rx hc.1 rs hc.2];exact q _ H (aO.refl H) (.bl _)
  ·cases e1
 ·split at e1
  ·rename_i ds hc;cases e1;obtain⟨p,xs,rfl,hq,rs⟩:=ry.gI;refine .inl ⟨p,xs,rfl,.inr hq.sq,rx.flat hc.1,rs.flat hc.2,?_⟩;show Q (.bl (uy x xs)) H;rw[aF.Eg rx hc.1 rs hc.2];exact q _ H (aO.refl H) (.bl _)
  ·cases e1
 ·split at e1
  ·cases e1;exact .inr ⟨_,_,rx.cy,ry.cy,q _ H (aO.refl H) (.bl _)⟩
  ·cases e1
 ·cases e1
theorem wC{K:Fg}:kJ K (λx y H Q=>Iw K true x y H Q\/(∃i j,x=.str i/\y=.str j/\Q (.bl (!(!(Builtin.Str.occurrences j i 0 j.length 1).isEmpty))) H)) f7:=by
 intro H Av x y dx dy d Q hA rx ry h q;obtain⟨k,e1,rfl⟩:=bT h;unfold IX at e1;split at e1
 ·split at e1
  ·rename_i ds hc;cases e1;obtain⟨p,xs,rfl,hq,rs⟩:=ry.eZ;refine .inl ⟨p,xs,rfl,.inl hq.sq,rx.flat hc.1,rs.flat hc.2,?_⟩;show Q (.bl (!uy x xs)) H;rw[aF.Eg rx hc.1 rs hc.2];exact q _ H (aO.refl H) (.bl _)
  ·cases e1
 ·split at e1
  ·rename_i ds hc;cases e1;obtain⟨p,xs,rfl,hq,rs⟩:=ry.gI;refine .inl ⟨p,xs,rfl,.inr hq.sq,rx.flat hc.1,rs.flat hc.2,?_⟩;show Q (.bl (!uy x xs)) H;rw[aF.Eg rx hc.1 rs hc.2];exact q _ H (aO.refl H) (.bl _)
  ·cases e1
 ·split at e1
  ·cases e1;exact .inr ⟨_,_,rx.cy,ry.cy,q _ H (aO.refl H) (.bl _)⟩
  ·cases e1
 ·cases e1
noncomputable def zh:Dat->Bool
 | .none=>true
 |_=>false
theorem aS.Uu{K:Fg}(r:aS K H Av v d):decide (v=.bU)=zh d:=by cases r<;>rfl
theorem GX{K:Fg}:kJ K (λx y H Q=>y=.bU/\Q (.bl (!decide (x=.bU))) H) (λx y=>if zh y=true then some (.bool (!zh x))else none):=by
 intro H Av x y dx dy d Q hA rx ry h q;dsimp only at h;split at h
 ·rename_i hy;cases h;have e:dy=.none:=by cases dy<;>first|rfl|cases hy
  subst e;exact⟨ry.Qw,by rw[rx.Uu];exact q _ H (aO.refl H) (.bl _)⟩
 ·cases h
noncomputable def uh:Dat->Dat->Option Dat:=λx y=>if zh y=true then some (.bool (!zh x))else none
variable {fb fa fc:ay->Option Dat}
noncomputable def ia (g g':Dat->Dat->Option Dat) (fa fb fc:ay->Option Dat):ay->Option Dat:=λρ=>(fa ρ).bind λx=>(fb ρ).bind λy=>(g x y).bind λz=>(oK z).bind λk=>if k=true then(fc ρ).bind λw=>g' y w else some (.bool false)
theorem yd{K:Fg}{r r':R2}{g g':Dat->Dat->Option Dat}(hr:kJ K r g)(Wh:kJ K r' g'):∀σ H Q,tF K (ia g g' fa fb fc) σ H Q->ye r r' (tF K fa) (tF K fb) (tF K fc) σ H Q:=by
 rintro σ H Q ⟨Av,ρ,d,hA,hE,hf,q⟩;obtain⟨dx,e1,WK⟩:=bind_some hf;obtain⟨dy,e2,zv⟩:=bind_some WK;obtain⟨dz,e3,WJ⟩:=bind_some zv;obtain⟨k,e4,Je⟩:=bind_some WJ;have e5:=pL e4;refine⟨Av,ρ,dx,hA,hE,e1,λx H1 s1 r1=>⟨Av,ρ,dy,hA.same s1,hE.same s1,e2,λy H2 s2 r2=>?_⟩⟩;refine hr H2 Av x y dx dy dz _ (hA.same (s1.trans s2)) (r1.same s2) r2 e3 λz H3 s3 r3=>?_;rw[e5]at r3;refine⟨k,r3.kI,?_⟩;have Df:=s1.trans (s2.trans s3);cases k with
 |false=>
  rw[if_neg Bool.false_ne_true]at Je ⊢;cases Je;exact q _ H3 Df (.bl false)
 |true=>
  rw[if_pos rfl]at Je ⊢;obtain⟨dw,e6,WI⟩:=bind_some Je;refine⟨Av,ρ,dw,hA.same Df,hE.same Df,e6,λw' H4 s4 r4=>?_⟩;exact Wh H4 Av y w' dy dw d Q (hA.same (Df.trans s4)) (r2.same (s3.trans s4)) r4 WI λv H5 s5 r5=>q v H5 (Df.trans (s4.trans s5)) r5
variable {c:Expr} {pos:Pos}
theorem DE{op rX:CmpOp}{r r':R2}{g g':Dat->Dat->Option Dat}(ho:dF X (compareOp op) r)(nB:dF X (compareOp rX) r')(hd:kJ X.K r g)(fE:kJ X.K r' g')(ha:PF X a fa)(hb:PF X b fb)(hc:PF X c fc)(hm:lastMarks [op,rX] [b,c]=false:=by with_unfolding_all rfl):JH X (.Compare a [op,rX] [b,c] pos) (aZ (ia g g' fa fb fc)):=ox (GF ho nB ha hb hc hm) (Az (yd hd fE))
noncomputable def C5:List Dat->Option (List Dat)
 |[.list ds]=>some ds
 |[.tuple ds]=>some ds
 |_=>none
noncomputable def km:List Dat->Option Dat
 |[.list ds]=>some (.tuple ds)
 |[.tuple ds]=>some (.tuple ds)
 |_=>none
theorem Am{K:Fg}:kN K (λxs H Q=>∃p ys,xs=[.ref p]/\((fF K H p ys/\∀l,H l=none->Q (.ref l) (upd H l (.tup ys)))\/(jI K H p ys/\Q (.ref p) H))) km:=by
 intro H Av xs ds d Q hA r h q;unfold km at h;split at h
 ·cases h;obtain⟨v,rfl,rv⟩:=r.cJ;obtain⟨p,xs,rfl,hq,rs⟩:=rv.eZ;exact⟨p,xs,rfl,.inl ⟨hq.sq,λl hl=>q _ _ (cb hl _) (.C4 hA hl rs)⟩⟩
 ·cases h;obtain⟨v,rfl,rv⟩:=r.cJ;have Vy:=rv;obtain⟨p,xs,rfl,hq,rs⟩:=rv.gI;exact⟨p,xs,rfl,.inr ⟨hq.sq,q _ H (aO.refl H) Vy⟩⟩
 ·cases h
open PySem PySem.Spec PyProof.Rows L2
open PySem.W (Dat kqdOk)
theorem vZ:∀(l:List (Str×Tok)),Vals ((l.map (·.1)).map V.str) (strValues l)
 |[]=>.nil
 |(x,t)::l=>.cons ⟨t,rfl⟩ (vZ l)
noncomputable def Di:V->List V->Hp->VK->Prop:=λx xs H Q=>∃a y,x=.str a/\xs=[.str y]/\(y.length==0)=false/\a.length<=sizeLine/\(Txt.split a y).length<=sizeLine/\∀p,H p=none->Q (.ref p) (upd H p (.lst ((Txt.split a y).map V.str)))
theorem pC:v9 X "str.split" Di:=by
 intro pins s σ H x xs v us Q I rx rv h;obtain⟨a,y,rfl,rfl,hy,ha,hn,q⟩:=h;obtain⟨t,rfl⟩:=rx;obtain⟨w',rfl,ko⟩:=vals1 rv;obtain⟨u,rfl⟩:=ko;have fin:∀(l:List (Str×Tok)) (tk:Nat),l.map (·.1)=Txt.split a y->EP X pins σ Q (.ref s.heap.objs.size) {s with heap:=s.heap.push {cls:=.type "list",data:=.seq (strValues l).toArray},toks:=tk}:=λl tk e=>by
  have vs:=vZ l;rw[e]at vs;exact⟨.ref _,_,I.Nt (t':=tk) vs (by rw[length_map];exact hn),rfl,q _ I.fresh⟩
 cases h1:(decide (a.length<y.length) || decide (Builtin.Str.strKind a<Builtin.Str.strKind y))
 ·cases hf:(Builtin.Str.occurrences a y 0 a.length (a.length+1)).isEmpty
  ·have es:Txt.split a y=Builtin.Str.partsBetween a (Builtin.Str.occurrences a y 0 a.length (a.length+1)) y.length:=(if_neg (ne_true_of_eq_false h1)).trans (if_neg (ne_true_of_eq_false hf));refine call_meets F.slot_str_split (typeIs_str s a t) F.entry_str_split (F.args_str_split_2 _ _) (meets_str_split_sep a y t u h1 hy hf ha (by rw[<- es];exact hn)) ?_;rw[strsFrom_eq];exact fin _ _ ((numbered_texts _ _).trans es.symm)
  ·have es:Txt.split a y=[a]:=(if_neg (ne_true_of_eq_false h1)).trans (if_pos hf);exact call_meets F.slot_str_split (typeIs_str s a t) F.entry_str_split (F.args_str_split_2 _ _) (meets_str_split_not_found a y t u h1 hy hf) (fin [(a,t)] s.toks es.symm)
 ·have es:Txt.split a y=[a]:=if_pos h1;exact call_meets F.slot_str_split (typeIs_str s a t) F.entry_str_split (F.args_str_split_2 _ _) (meets_str_split_cannot_occur a y t u h1) (fin [(a,t)] s.toks es.symm)
noncomputable def eO:Dat->List Dat->Option (List Dat):=λx as=>match x,as with
 | .str a,[.str y]=>if(y.length==0)=false/\a.length<=sizeLine/\(Txt.split a y).length<=sizeLine then some ((Txt.split a y).map Dat.str)else none
 |_,_=>none
theorem aF.strs{K:Fg}(l:List Str):aF K H Av (l.map V.str) (l.map Dat.str):=by
 induction l with
 |nil=>exact .nil
 |cons n ns ih=>exact .cons (.str n) ih
noncomputable def Kj:V->List V->Hp->VK->Prop:=λx xs H Q=>∃a y,x=.str a/\xs=[.str y]/\Q (.bl (decide (0+y.length<=a.length)&&Builtin.Str.subAt a y 0)) H
theorem E3:v9 X "str.startswith" Kj:=by
 intro pins s σ H x xs v us Q I rx rv h;obtain⟨a,y,rfl,rfl,q⟩:=h;obtain⟨t,rfl⟩:=rx;obtain⟨w',rfl,ko⟩:=vals1 rv;obtain⟨u,rfl⟩:=ko;exact call_meets F.slot_str_startswith (typeIs_str s a t) F.entry_str_startswith (F.args_str_startswith_2 _ _) (gives_str_startswith a y t u).meets ⟨.bl _,H,I,rfl,q⟩
noncomputable def fA:Dat->List Dat->Option Dat:=λx as=>match x,as with
 | .str a,[.str y]=>some (.bool (decide (0+y.length<=a.length)&&Builtin.Str.subAt a y 0))
 |_,_=>none
open PySem PySem.Spec PyProof.Rows L2
open PySem.W (Dat kqdOk)
noncomputable def Ug:V->Option Int->Option Int->Hp->VK->Prop:=λx lo hi H Q=>∃a,x=.str a/\a.length<=sizeLine/\Q (.str (Txt.slice a lo hi)) H
theorem Mm:xm X Ug:=by
 intro pins s σ H x v vl vu lo hi sl Q I rx hs pl pu h;obtain⟨a,rfl,ha,q⟩:=h;obtain⟨t,rfl⟩:=rx;have fin:∀(y:Str) (t':Tok) (k:Nat),y=Txt.slice a lo hi->EP X pins σ Q (.str y t') {s with toks:=k}:=λy t' k e=>by
  subst e;exact⟨.str _,H,I.tok k,⟨t',rfl⟩,q⟩
 refine⟨"str",_,slot_str_getitem.lookup,typeIs_str s a t,?_⟩;cases pl with
 |none=>
  cases pu with
  |none=>exact wpAny_getItem_str_slice (l:=none) (u:=none) (st:=none) hs rfl (post_val_or_str ⟨le_trans (Txt.slice_le a _ _) ha,λt' k=>fin _ t' k rfl⟩)
  |int j uj=>exact wpAny_getItem_str_slice (l:=none) (u:=some (j,uj)) (st:=none) hs rfl (post_val_or_str ⟨le_trans (Txt.slice_le a _ _) ha,λt' k=>fin _ t' k rfl⟩)
 |int i ui=>
  cases pu with
  |none=>exact wpAny_getItem_str_slice (l:=some (i,ui)) (u:=none) (st:=none) hs rfl (post_val_or_str ⟨le_trans (Txt.slice_le a _ _) ha,λt' k=>fin _ t' k rfl⟩)
  |int j uj=>exact wpAny_getItem_str_slice (l:=some (i,ui)) (u:=some (j,uj)) (st:=none) hs rfl (post_val_or_str ⟨le_trans (Txt.slice_le a _ _) ha,λt' k=>fin _ t' k rfl⟩)
noncomputable def nZ:Dat->Option Int->Option Int->Option Dat
 | .str a,lo,hi=>if a.length<=sizeLine then some (.str (Txt.slice a lo hi))else none
 |_,_,_=>none
variable {f:ay->Option Dat}
noncomputable def gD (f:ay->Option Dat) (fl fh:ay->Option (Option Int)):ay->Option Dat:=λρ=>(f ρ).bind λd=>(fl ρ).bind λl=>(fh ρ).bind λh=>nZ d l h
def ModT (K:Fg) (a:Addr) (ds:List Dat):Prop:=∃(xs:List V) (o:Obj) (aA:Array Value) (n:Nat),K.lookup a=some o/\o.cls=.type "tuple"/\o.data=.seq aA n/\aA.size<=sizeLine/\Vals xs aA.toList/\∀H Av,aF K H Av xs ds
open PySem PySem.Spec PyProof.Rows L2
open PySem.W (Dat kqdOk)
noncomputable def Iv:List V->Hp->VK->Prop:=λxs H Q=>∃(a:Str) (n:Int),xs=[.str a]/\PySem.intText? a=some n/\a.length<=640/\Q (.int n) H
theorem F2:iK X (.type "int") Iv:=by
 intro pins s σ H xs us Q I vs h;obtain⟨a,n,rfl,hn,hl,q⟩:=h;obtain⟨u,rfl,t,rfl⟩:=vals1 vs;exact PySem.W.KIN.call_text hn hl ⟨.int n,H,I.tok _,⟨_,rfl⟩,q⟩
noncomputable def xK:List Dat->Option Dat
 |[.str a]=>if a.length<=640 then(PySem.intText? a).map .int else none
 |_=>none
theorem Cs{K:Fg}:kN K Iv xK:=by
 intro H Av xs ds d Q hA r h q;unfold xK at h;split at h
 ·split at h
  ·rename_i hz;obtain⟨n,e1,e2⟩:=map_eq_some_iff.mp h;subst e2;obtain⟨v,rfl,rv⟩:=r.cJ;rw[rv.cy];exact⟨_,n,rfl,e1,hz,q _ H (aO.refl H) (.int _)⟩
  ·cases h
 ·cases h
theorem Au:∀{bs:List Bool} {us:List Value},Vals (bs.map V.bl) us->us=bs.map Value.bool
 |[],_,h=>by cases h;rfl
 |b::bs,_,h=>by
  cases h with
  |cons r h=>
   cases r;rw[Au h];rfl
noncomputable def ME (X:Cx):List V->Hp->VK->Prop:=λxs H Q=>∃(p:Addr) (bs:List Bool),xs=[.ref p]/\fF X.K H p (bs.map .bl)/\Q (.bl (bs.all id)) H
theorem F4(hc:X.calm=true):iK X (.builtin "all") (ME X):=by
 intro pins s σ H xs us Q I r h;obtain⟨p,bs,rfl,hq,q⟩:=h;obtain⟨u,rfl,rx⟩:=vals1 r;cases rx;obtain⟨aA,r',pl,hz⟩:=I.list hq;have hb:=Au r';subst hb;have old:∀(b:Addr) (x:Obj),s.heap.get? b=some x->b≠s.heap.objs.size:=λb x e z=>by
  rw[z]at e;exact absurd (lt_size e) (lt_irrefl _)
 have ne:p≠s.heap.objs.size:=by
  obtain⟨x,e,_⟩:=pl.isList;exact old p x e
 refine call_all_walk (wpAny_pyIter_list pl.isList ?_);have W:=Walks.list (prog:=X.prog) (w:=X.w) (A:=X.A.in1) (I.ok.hd hc) s.heap.objs.size p ne (bs.map Value.bool).toArray;refine⟨_,_,_,_,_,_,λi=>(bs[i]?).getD true,rfl,W,?_,?_,?_⟩
 ·exact And.intro ⟨_,get?_push_size _ rfl,rfl,rfl⟩ (pl.isList.push _)
 ·intro i v s' Q' E' HU go;have HU:(bs[i]?).map Value.bool=some v:=by simpa using HU
  obtain⟨b,eb,rfl⟩:=map_eq_some_iff.mp HU;have go:Q' ((bs[i]?).getD true) s':=go;rw[eb]at go;exact wpAny_truthy_bool go
 ·intro h' tk keep;have sz:(bs.map Value.bool).toArray.size=bs.length:=by simp
  rw[sz,PyProof.Rows.LSm.range_all bs];exact⟨.bl (bs.all id),H,I.kept λb x e=>keep b x (λhm=>old b x e (mem_singleton.mp hm)) (get?_push_of_some _ e),rfl,q⟩
noncomputable def tq:List Dat->Option (List Bool)
 |[]=>some []
 | .bool b::ds=>(tq ds).map (b::·)
 |_=>none
theorem zY:∀bs:List Bool,tq (bs.map Dat.bool)=some bs
 |[]=>rfl
 |b::bs=>by simp only[map_cons,tq,zY bs,map_some]
theorem AL{K:Fg}{H:Hp}{Av:eX}:∀{ds:List Dat} {bs:List Bool} {xs:List V},tq ds=some bs->aF K H Av xs ds->xs=bs.map .bl
 |[],_,_,h,r=>by cases h;cases r;rfl
 |d::ds,bs,_,h,r=>by
  cases d with
  |bool b=>
   obtain⟨bs',e1,rfl⟩:=map_eq_some_iff.mp (show(tq ds).map (b::·)=some bs from h);cases r with
   |cons r1 r2=>
    rw[r1.kI,AL e1 r2];rfl
  |_=>cases h
noncomputable def tv:List Dat->Option Dat
 |[.list ds]=>(tq ds).map λbs=>.bool (bs.all id)
 |_=>none
theorem Fe:kN X.K (ME X) tv:=by
 intro H Av xs ds d Q hA r h q;unfold tv at h;split at h
 ·obtain⟨bs,e1,rfl⟩:=map_eq_some_iff.mp h;obtain⟨v,rfl,rv⟩:=r.cJ;obtain⟨a,ys,rfl,hq,rs⟩:=rv.eZ;rw[AL e1 rs]at hq;exact⟨a,bs,rfl,hq.sq,q _ H (aO.refl H) (.bl _)⟩
 ·cases h
open PySem PySem.Spec PyProof.Rows L2
open PySem.W (Dat kqdOk)
noncomputable def JL (x:Str):It:=⟨λi _=>i<x.cps.size,λi H v H'=>H'=H/\∃c,x.cps[i]?=some c/\v=.str ⟨#[c]⟩,λi _=>x.cps.size<=i⟩
variable {P:Program} {w:World} {tg:Expr}
theorem Ge{K:Fg}(it:Addr)(x:Str)(t:Tok)(nm:String)(iP:nm="str_ascii_iterator"\/nm="str_iterator"):Turn P w K tg (JL x) [it] it (λi h=>h.IsStrIter it nm x t i) where
 mem:=mem_singleton.mpr rfl
 obj:=λi h st b hb=>by
  rw[mem_singleton.mp hb];obtain⟨o,e,c,d⟩:=st;exact⟨o,e,λv z=>by rw[d]at z;cases z⟩
 keep:=λi h h' st k=>by
  obtain⟨o,e,r⟩:=st;exact⟨o,k it (mem_singleton.mpr rfl) o e,r⟩
 item:=by
  intro X hP hw hK hc i pins s σ H E I hf st hg;subst hP hw hK;obtain⟨f0,f1,f2,f3,f4,f5⟩:=hf it (mem_singleton.mpr rfl);have fin:∀(v:Value) (h':Heap) (tk:Nat),SignAt x i v->h'.IsStrIter it nm x t (i+1)->(∀b o,b∉[it]->s.heap.get? b=some o->h'.get? b=some o)->
    ∃u,some v=some u/\wpAny (model X.prog X.w) X.A (letOwnedTupleGo tg (.ref it) u) (λ_ s2=>∃y H',L2.Inv X pins σ H' s2/\L2.RelV y u/\(JL x).oh i H y H'/\s2.heap.IsStrIter it nm x t (i+1)/\∀b∈[it],H' b=none) E {s with heap:=h',toks:=tk}:=by
   intro v h' tk ⟨c,u,ec,ev⟩ qb kk;subst ev;have I1:L2.Inv X pins σ H {s with heap:=h',toks:=tk}:=I.turned (λb o hb e=>kk b o (by simpa using hb) e) f0 f1 f3 f4 f5;obtain⟨o,e,c',d⟩:=id qb;refine⟨_,rfl,xN (s:={s with heap:=h',toks:=tk}) e c' d ?_ ⟨.str ⟨#[c]⟩,H,I1,⟨u,rfl⟩,⟨rfl,c,ec,rfl⟩,qb,λb hb=>(hf b hb).1⟩⟩;rcases iP with rfl|rfl<;>decide
  rcases iP with rfl|rfl
  ·exact(Walks.strAscii (prog:=X.prog) (w:=X.w) (I.ok.hd hc) it x t).item i s _ _ hg st fin
  ·exact(Walks.strWide (prog:=X.prog) (w:=X.w) (I.ok.hd hc) it x t).item i s _ _ hg st fin
 done:=by
  intro X hP hw hK hc i pins s σ H E I hf st hg;subst hP hw hK;obtain⟨f0,f1,f2,f3,f4,f5⟩:=hf it (mem_singleton.mpr rfl);have hn:x.cps[i]?=none:=Array.getElem?_eq_none hg;rcases iP with rfl|rfl
  ·exact wpAny_pyNext_ascii_end (I.ok.hd hc) st hn λh' eb=>⟨rfl,I.turned (t':=s.toks) (λb o hb e=>eb b o hb e) f0 f1 f3 f4 f5⟩
  ·exact wpAny_pyNext_wide_end (I.ok.hd hc) st hn λh' eb=>⟨rfl,I.turned (t':=s.toks) (λb o hb e=>eb b o hb e) f0 f1 f3 f4 f5⟩
 self:=λ_ _ _ _ _ st h=>by
  rcases iP with rfl|rfl
  ·exact wpAny_pyIter_striter_ascii st h
  ·exact wpAny_pyIter_striter_wide st h
noncomputable def NH (tl:TE):TI:=λσ H R=>tl σ H λx H1=>∃a,x=.str a/\R (JL a) H1
theorem DA{l:Expr}{tl:TE}(hl:PE X l tl):PI X tg l (NH tl):=by
 intro pins s σ H R I h;refine bP (hl pins s σ H _ I h) λv s1 ⟨x,H1,I1,r1,q1⟩=>?_;obtain⟨a,e,q⟩:=q1;subst e;obtain⟨t,rfl⟩:=r1;refine wpAny_pyIter_strU ?_;refine⟨s1.heap.objs.size,[s1.heap.objs.size],_,_,H1,rfl,I1.kept (t':=s1.toks) (λb o e=>get?_push_of_some _ e),Ge _ a t (strIterType a) ?_,?_,λb hb=>?_,q⟩
 ·unfold strIterType;split
  ·exact .inl rfl
  ·exact .inr rfl
 ·exact⟨_,get?_push_size _ rfl,rfl,rfl⟩
 ·rw[mem_singleton.mp hb];exact I1.Ci (le_refl _) (I1.hok.fresh (le_refl _))
noncomputable def signsOf (a:Str):List Dat:=a.cps.toList.map λc=>.str ⟨#[c]⟩
noncomputable def tU:Dat->Option (List Dat)
 | .str a=>some (signsOf a)
 |_=>none
theorem yT{K:Fg}{a:Str}:Over K (JL a) (.str a) (.str a) (signsOf a):=by
 intro i H Av r;refine⟨λh=>?_,λdi hd=>?_⟩
 ·show a.cps.size<=i;simpa [signsOf]using h
 ·unfold signsOf at hd;rw[getElem?_map]at hd;obtain⟨c,ec,rfl⟩:=map_eq_some_iff.mp hd;have ec:a.cps[i]?=some c:=by simpa using ec
  refine⟨(Array.getElem?_eq_some_iff.mp ec).1,λy H' hy=>?_⟩;obtain⟨e1,c',e2,e3⟩:=hy;rw[ec]at e2;cases e2;subst e3;exact⟨e1,.str _⟩
variable {ft:ay->Option Bool}
noncomputable def i9 (cap:List (Option Nat)) (gt:Dat->Option dH) (ft:ay->Option Bool) (fe:ay->Option Dat) (fi:ay->Option Dat):ay->Option (List Dat):=λρ=>(fi ρ).bind λd=>(tU d).bind λds=>if ds.length<sizeLine then cL gt ft fe (gf cap ρ) ds else none
variable {gt:Dat->Option dH} {fe:ay->Option Dat}
theorem Gg{K:Fg}{cap:List (Option Nat)}{fi:ay->Option Dat}(ht:mh gt cap):∀σ H Q,kP K (i9 cap gt ft fe fi) σ H Q->nM cap (NH (tF K fi)) (iN K gt) (jT K ft) (tF K fe) σ H Q:=by
 rintro σ H Q ⟨Av,ρ,out,hA,hE,hf,q⟩;obtain⟨d,e1,hf⟩:=bind_some hf;obtain⟨ds,e2,hf⟩:=bind_some hf;split at hf
 ·rename_i hz;refine⟨Av,ρ,d,hA,hE,e1,λx H1 s1 r=>?_⟩;have main:∀J:It,Over K J x d ds->∃W:Nat->Nat->List V->Hp->Prop,(∃m,W 0 m [] H1)/\∀i m ys H,W i m ys H->ys.length<sizeLine/\
    ((J.stop i H/\∀D,H D=none->Q (.ref D) (upd H D (.lst ys)))\/
     (J.go i H/\∀x H',J.oh i H x H'->iN K gt x (cn cap σ) H' λdU H2=>fg (cn cap σ) dU/\jT K ft dU H2 λb H3=>if b=true then tF K fe dU H3 λv H4=>∃m',m'<m/\W (i+1) m' (ys++[v]) H4 else ∃m',m'<m/\W (i+1) m' ys H3)):=by
   intro J ov;refine⟨λi m ys H2=>m=ds.length-i/\i<=ds.length/\aO H1 H2/\∃o1 o2,aF K H2 Av ys o1/\o1.length<=i/\cL gt ft fe (gf cap ρ) (ds.drop i)=some o2/\out=o1++o2,
    ⟨_,rfl,zero_le _,aO.refl _,[],out,.nil,le_refl _,by rw[drop_zero];exact hf,rfl⟩,?_⟩
   rintro i m ys H2 ⟨rfl,hi,s2,o1,o2,ro,hl,hc,rfl⟩;refine⟨by have:=ro.length;omega,?_⟩;have rx:=r.same s2;cases gO:ds[i]? with
   |none=>
    have hle:ds.length<=i:=List.getElem?_eq_none_iff.mp gO;rw[drop_eq_nil_of_le hle]at hc;cases hc;refine .inl ⟨(ov i H2 _ rx).1 hle,λD hD=>q H2 D ys (s1.trans s2) hD (by rw[append_nil];exact ro)⟩
   |some di=>
    have lO:=j9 gO;rw[drop_cons gO]at hc;obtain⟨as,a1,hc⟩:=bind_some (show(gt di).bind _=some o2 from hc);obtain⟨k,a2,hc⟩:=bind_some hc;obtain⟨go,yl⟩:=(ov i H2 _ rx).2 di gO;refine .inr ⟨go,λy H' hy=>?_⟩;obtain⟨eH,ry⟩:=yl y H' hy;subst eH;refine⟨Av,di,as,ry,a1,λws hw=>?_⟩;have cs:∀p∈as,(cn cap σ)[p.1]?=some none:=λp hp=>by
     unfold cn;rw[getElem?_map,ht di as a1 p hp];rfl
    have A2:=hA.same (s1.trans s2);have E2:fD K H' Av (o4 (cn cap σ) ws) (j5 (gf cap ρ) as):=fD.gJ hw (by unfold cn gf;rw[length_map,length_map]) ((hE.same (s1.trans s2)).cap cap);refine⟨fg.gJ hw cs (fg.refl _),Av,_,k,A2,E2,a2,λH3 s3=>?_⟩;cases k with
    |false=>
     rw[if_neg Bool.false_ne_true]at hc ⊢;exact⟨ds.length-(i+1),by omega,rfl,by omega,s2.trans s3,o1,o2,ro.same s3,by omega,hc,rfl⟩
    |true=>
     rw[if_pos rfl]at hc ⊢;obtain⟨dv,a3,hc⟩:=bind_some hc;obtain⟨o3,a4,hc⟩:=bT hc;subst hc;refine⟨Av,_,dv,A2.same s3,E2.same s3,a3,λv H4 s4 rv=>⟨ds.length-(i+1),by omega,rfl,by omega,s2.trans (s3.trans s4),o1++[dv],o3,(ro.same (s3.trans s4)).append (.cons rv .nil),?_,a4,?_⟩⟩
     ·rw[length_append,length_singleton];omega
     ·rw[append_assoc];rfl
  cases d with
  |str a=>
   cases e2;rw[r.cy];rw[r.cy]at main;exact⟨a,rfl,main _ yT⟩
  |_=>cases e2
 ·cases hf
open PySem PySem.Spec PyProof.Rows L2
open PySem.W (Dat kqdOk)
theorem wY{x:V}:∀{xs:List V} {us:List Value},Vals xs us->xs.all gY=true->us.countP (ke x)=xs.countP λy=>lR y x
 |_,_,.nil,_=>rfl
 |y::xs,u::us,.cons r t,h=>by
  obtain⟨h1,h2⟩:=and_eq_true_iff.mp (all_cons▸h);rw[countP_cons,countP_cons,wY t h2,uJ r h1]
theorem Bk{x:V}:∀{xs:List V} {us:List Value},Vals xs us->xs.all gY=true->∀(i:Nat) (u:Value),us[i]?=some u->∃y,xs[i]?=some y/\ke x u=lR y x
 |_,_,.nil,_,i,u,hu=>by simp at hu
 |y::xs,u::us,.cons r t,h,i,w,hw=>by
  obtain⟨h1,h2⟩:=and_eq_true_iff.mp (all_cons▸h);cases i with
  |zero=>cases hw;exact⟨y,rfl,uJ r h1⟩
  |succ i=>exact Bk t h2 i w (by simpa using hw)
noncomputable def MD (X:Cx):V->List V->Hp->VK->Prop:=λx xs H Q=>∃(p:Addr) (ys:List V) (y:V),x=.ref p/\xs=[y]/\fF X.K H p ys/\gY y=true/\ys.all gY=true/\Q (.int ((ys.countP λz=>lR z y:Nat):Int)) H
theorem Hb:v9 X "list.count" (MD X):=by
 intro pins s σ H x xs v us Q I rx rv h;obtain⟨p,ys,y,rfl,rfl,hq,hy,hf,q⟩:=h;cases rx;obtain⟨u,rfl,ru⟩:=vals1 rv;obtain⟨aA,r',pl,hz⟩:=I.list hq;obtain⟨ob,n,g,c1,c2,c3⟩:=id pl;have ty:=pl.isList.typeIs;obtain⟨cls,dict,data,slots⟩:=ob;cases c1;cases c2;cases c3;refine call_meets F.slot_list_count ty F.entry_list_count (F.args_list_count_2 _ _) (SeqAt.list_countAt p aA.toArray n none slots u (ke y)) ⟨g,λz Ej=>jL ru hy r' hf z (by simpa using Ej),?_⟩;refine⟨.int _,H,I.tok _,⟨s.toks,?_⟩,q⟩;rw[toList_toArray,wY r' hf]
noncomputable def MA (X:Cx):V->List V->Hp->VK->Prop:=λx xs H Q=>∃(p:Addr) (ys:List V) (y:V) (j:Nat) (z:V),x=.ref p/\xs=[y]/\fF X.K H p ys/\gY y=true/\ys.all gY=true/\ys[j]?=some z/\lR z y=true/\(∀m w,m<j->ys[m]?=some w->lR w y=false)/\Q (.int (j:Int)) H
theorem H9:v9 X "list.index" (MA X):=by
 intro pins s σ H x xs v us Q I rx rv h;obtain⟨p,ys,y,j,z,rfl,rfl,hq,hy,hf,hj,VX,zt,q⟩:=h;cases rx;obtain⟨u,rfl,ru⟩:=vals1 rv;obtain⟨aA,r',pl,hz⟩:=I.list hq;obtain⟨ob,n,g,c1,c2,c3⟩:=id pl;have ty:=pl.isList.typeIs;obtain⟨cls,dict,data,slots⟩:=ob;cases c1;cases c2;cases c3;have hlen:=r'.length;have jl:j<ys.length:=(List.getElem?_eq_some_iff.mp hj).1;have ji:j<aA.toArray.size:=by rw[size_toArray,<- hlen];exact jl
 have at_:∀m (hm:m<aA.toArray.size),∃w,ys[m]?=some w/\ke y aA.toArray[m]=lR w y:=λm hm=>Bk r' hf m _ (by simp);have l63:=qA;refine call_meets F.slot_list_index ty F.entry_list_index (F.args_list_index_2 _ _) (SeqAt.list_indexAt p aA.toArray n none slots u (ke y) j ji (by have:=sizeLine_eq;omega) ?_ ?_) ⟨g,λz Ej=>jL ru hy r' hf z (by simpa using Ej),?_⟩
 ·obtain⟨w,e1,e2⟩:=at_ j ji;rw[hj]at e1;cases e1;rw[e2];exact VX
 ·intro m hm Wo;obtain⟨w,e1,e2⟩:=at_ m hm;rw[e2];exact zt m w Wo e1
 ·exact⟨.int _,H,I.tok _,⟨s.toks,rfl⟩,q⟩
noncomputable def oI:Dat->List Dat->Option Dat:=λx as=>match x,as with
 | .list ds,[d]=>if f9 d=true/\ds.all f9=true then some (.int ((ds.countP λz=>kT z d:Nat):Int))else none
 |_,_=>none
noncomputable def ux:Dat->List Dat->Option Dat:=λx as=>match x,as with
 | .list ds,[d]=>if f9 d=true/\ds.all f9=true then(ds.findIdx? λz=>kT z d).map (fun(j:Nat)=>Dat.int (j:Int))else none
 |_,_=>none
theorem aF.EZ{K:Fg}{H:Hp}{Av:eX}{x:V}{dx:Dat}(rx:aS K H Av x dx)(hx:f9 dx=true):∀{vs:List V} {ds:List Dat},aF K H Av vs ds->ds.all f9=true->(vs.countP λy=>lR y x)=ds.countP λy=>kT y dx
 |_,_,.nil,_=>rfl
 |_,_,.cons r t,h=>by
  simp only[all_cons,and_eq_true]at h;rw[countP_cons,countP_cons,r.kT rx h.1 hx,aF.EZ rx hx t h.2]
theorem aF.Hr{K:Fg}{H:Hp}{Av:eX}{x:V}{dx:Dat}(rx:aS K H Av x dx)(hx:f9 dx=true):∀{vs:List V} {ds:List Dat},aF K H Av vs ds->ds.all f9=true->∀(i:Nat) (v:V),vs[i]?=some v->∃d,ds[i]?=some d/\lR v x=kT d dx
 |_,_,.nil,_,i,v,hv=>by simp at hv
 |_,_,.cons r t,h,i,v,hv=>by
  simp only[all_cons,and_eq_true]at h;cases i with
  |zero=>cases hv;exact⟨_,rfl,r.kT rx h.1 hx⟩
  |succ i=>exact aF.Hr rx hx t h.2 i v (by simpa using hv)
open PySem PySem.Spec PyProof.Rows L2
open PySem.W (Dat kqdOk)
noncomputable abbrev HF:=aD->Option (Dat×aD)
noncomputable def h2 (g:Dat->Dat->Option Dat) (fa fb:HF):HF:=λΓ=>(fa Γ).bind λp=>(fb p.2).bind λr=>(g p.1 r.1).map λd=>(d,r.2)
noncomputable def Vt (K:Fg) (n:Nat) (F:List Dat->Option (List Dat)):Sp:=λvs H Q _=>∃Av ds out,ij H Av/\aF K H Av vs ds/\ds.length=n/\F ds=some out/\∀H1 p xs,aO H H1->H1 p=none->aF K H1 Av xs out->Q (.ref p) (upd H1 p (.lst xs))
structure sD (P:Program) (w:World) (K:Fg) (mg:Str->Option Value) (base:Heap) (k:Nat) (x:Str) (ps:List Str) (n:Nat) (F:List Dat->Option (List Dat)):Prop where
 ex:∃(f:Addr) (fd:FuncData),gg P w K mg base j0 k f fd ps (Vt K n F)/\mg x=some (.ref f)/\keepIn K (.ref f)=true/\Binds K fd ps []
variable {mg:Str->Option Value} {base:Heap} {ps:List Str} {n:Nat}
theorem sD.up{K:Fg}{j k:Nat}{x:Str}{F:List Dat->Option (List Dat)}(D:sD P w K mg base j x ps n F)(h:j<=k):sD P w K mg base k x ps n F:=by
 obtain⟨f,fd,h1,h2⟩:=D.ex;exact⟨f,fd,h1.mono h,h2⟩
noncomputable def vK (n:Nat) (F:List Dat->Option (List Dat)) (fs:ay->Option (List Dat)):ay->Option (List Dat):=λρ=>(fs ρ).bind λds=>if ds.length=n then F ds else none
open PySem PySem.Spec PyProof.Rows L2
open PySem.W (Dat kqdOk)
def JI (K:Fg) (J:It) (xs:List V) (EN:List Dat) (ds:List Dat):Prop:=∀(i:Nat) (H:Hp) (Av:eX),aF K H Av xs EN->(ds.length<=i->J.stop i H)/\(∀di,ds[i]?=some di->J.go i H/\∀y H',ij H Av->J.oh i H y H'->aO H H'/\aS K H' Av y di)
variable {J:It} {ds:List Dat}
theorem Over.s{K:Fg}{x:V}(o:Over K J x d ds):JI K J [x] [d] ds:=λi H Av r=>by
 obtain⟨v,e,rv⟩:=r.cJ;cases e;obtain⟨h1,h2⟩:=o i H Av rv;refine⟨h1,λdi hd=>?_⟩;obtain⟨g,y⟩:=h2 di hd;refine⟨g,λz H' _ hz=>?_⟩;obtain⟨e,r'⟩:=y z H' hz;subst e;exact⟨aO.refl _,r'⟩
noncomputable def Ma (K:Fg) (fi:ay->Option (List Dat)):TI:=λσ H R=>∃Av ρ ds,ij H Av/\fD K H Av σ ρ/\fi ρ=some ds/\∀J xs EN H1,aO H H1->aF K H1 Av xs EN->JI K J xs EN ds->R J H1
abbrev Yz (X:Cx) (tg iter:Expr) (fi:ay->Option (List Dat)):Prop:=PI X tg iter (Ma X.K fi)
variable {iter:Expr}
theorem vy{t t':TI}(h:PI X tg iter t)(m:∀σ H R,t' σ H R->t σ H R):PI X tg iter t':=λpins s σ H R I q=>h pins s σ H R I (m σ H R q)
noncomputable def NI (f:ay->Option Dat):ay->Option (List Dat):=λρ=>(f ρ).bind j8
variable {fs:ay->Option (List Dat)} in
noncomputable def zk (rg:List Dat->Option (List Dat)) (fs:ay->Option (List Dat)):ay->Option (List Dat):=λρ=>(fs ρ).bind rg
variable {fi:ay->Option (List Dat)}
noncomputable def jb (cap:List (Option Nat)) (gt:Dat->Option dH) (ft:ay->Option Bool) (fe:ay->Option Dat) (fi:ay->Option (List Dat)):ay->Option (List Dat):=λρ=>(fi ρ).bind λds=>if ds.length<sizeLine then cL gt ft fe (gf cap ρ) ds else none
theorem AD{K:Fg}{cap:List (Option Nat)}(ht:mh gt cap):∀σ H Q,kP K (jb cap gt ft fe fi) σ H Q->nM cap (Ma K fi) (iN K gt) (jT K ft) (tF K fe) σ H Q:=by
 rintro σ H Q ⟨Av,ρ,out,hA,hE,hf,q⟩;obtain⟨ds,e1,hf⟩:=bind_some hf;split at hf
 ·rename_i hz;refine⟨Av,ρ,ds,hA,hE,e1,λJ xs EN H1 s1 r ov=>?_⟩;refine⟨λi m ys H2=>m=ds.length-i/\i<=ds.length/\aO H1 H2/\∃o1 o2,aF K H2 Av ys o1/\o1.length<=i/\cL gt ft fe (gf cap ρ) (ds.drop i)=some o2/\out=o1++o2,
   ⟨_,rfl,zero_le _,aO.refl _,[],out,.nil,le_refl _,by rw[drop_zero];exact hf,rfl⟩,?_⟩
  rintro i m ys H2 ⟨rfl,hi,s2,o1,o2,ro,hl,hc,rfl⟩;refine⟨by have:=ro.length;omega,?_⟩;have rx:=r.same s2;cases gO:ds[i]? with
  |none=>
   have hle:ds.length<=i:=List.getElem?_eq_none_iff.mp gO;rw[drop_eq_nil_of_le hle]at hc;cases hc;refine .inl ⟨(ov i H2 _ rx).1 hle,λD hD=>q H2 D ys (s1.trans s2) hD (by rw[append_nil];exact ro)⟩
  |some di=>
   have lO:=j9 gO;rw[drop_cons gO]at hc;obtain⟨as,a1,hc⟩:=bind_some (show(gt di).bind _=some o2 from hc);obtain⟨k,a2,hc⟩:=bind_some hc;obtain⟨go,yl⟩:=(ov i H2 _ rx).2 di gO;refine .inr ⟨go,λy H' hy=>?_⟩;obtain⟨sH,ry⟩:=yl y H' (hA.same (s1.trans s2)) hy;refine⟨Av,di,as,ry,a1,λws hw=>?_⟩;have cs:∀p∈as,(cn cap σ)[p.1]?=some none:=λp hp=>by
    unfold cn;rw[getElem?_map,ht di as a1 p hp];rfl
   have A2:=hA.same (s1.trans (s2.trans sH));have E2:fD K H' Av (o4 (cn cap σ) ws) (j5 (gf cap ρ) as):=fD.gJ hw (by unfold cn gf;rw[length_map,length_map]) ((hE.same (s1.trans (s2.trans sH))).cap cap);refine⟨fg.gJ hw cs (fg.refl _),Av,_,k,A2,E2,a2,λH3 s3=>?_⟩;cases k with
   |false=>
    rw[if_neg Bool.false_ne_true]at hc ⊢;exact⟨ds.length-(i+1),by omega,rfl,by omega,s2.trans (sH.trans s3),o1,o2,ro.same (sH.trans s3),by omega,hc,rfl⟩
   |true=>
    rw[if_pos rfl]at hc ⊢;obtain⟨dv,a3,hc⟩:=bind_some hc;obtain⟨o3,a4,hc⟩:=bT hc;subst hc;refine⟨Av,_,dv,A2.same s3,E2.same s3,a3,λv H4 s4 rv=>⟨ds.length-(i+1),by omega,rfl,by omega,s2.trans (sH.trans (s3.trans s4)),o1++[dv],o3,(ro.same (sH.trans (s3.trans s4))).append (.cons rv .nil),?_,a4,?_⟩⟩
    ·rw[length_append,length_singleton];omega
    ·rw[append_assoc];rfl
 ·cases hf
set_option maxHeartbeats 4000000
open PySem PySem.Spec PyProof.Rows L2
open PySem.W (Dat kqdOk)
theorem M0{i j:Nat}{cap:List (Option Nat)}(hi:cap[i]?=some none)(hj:cap[j]?=some none):mh (qN 2 (mE (aName i) (mE (aName j) vS))) cap:=λd as e p hp=>by
 unfold qN at e;split at e
 ·split at e
  ·rename_i ds hl;match ds,hl with
   |[a,b],_=>
    cases e;rcases mem_cons.mp hp with e|hp
    ·rw[e];exact hi
    ·rcases mem_cons.mp hp with e|hp
     ·rw[e];exact hj
     ·simp at hp
  ·cases e
 ·cases e
open PySem PySem.Spec PyProof.Rows L2
open PySem.W (Dat kqdOk)
open PySem PySem.Spec PyProof.Rows L2
open PySem.W (Dat kqdOk)
variable {p:Pos} {env:Env} {ts es:List Expr}
theorem Gj{k}:starEach (.Tuple ts k p::es) env=(false,eval (.Tuple ts k p) env)::starEach es env:=by rw[starEach];intro _ _ h;cases h
theorem jJ:starEach (.List ts p::es) env=(false,eval (.List ts p) env)::starEach es env:=by rw[starEach];intro _ _ h;cases h
theorem bZ{op}:starEach (.BinOp a op b p::es) env=(false,eval (.BinOp a op b p) env)::starEach es env:=by rw[starEach];intro _ _ h;cases h
theorem vo{op}:starEach (.UnaryOp op a p::es) env=(false,eval (.UnaryOp op a p) env)::starEach es env:=by rw[starEach];intro _ _ h;cases h
theorem aJ:starEach (.Subscript a b p::es) env=(false,eval (.Subscript a b p) env)::starEach es env:=by rw[starEach];intro _ _ h;cases h
theorem bf{ks}:starEach (.Call a ts ks p::es) env=(false,eval (.Call a ts ks p) env)::starEach es env:=by rw[starEach];intro _ _ h;cases h
theorem oQ{os}:starEach (.Compare a os ts p::es) env=(false,eval (.Compare a os ts p) env)::starEach es env:=by rw[starEach];intro _ _ h;cases h
open PySem PySem.Spec PyProof.Rows L2
open PySem.W (Dat kqdOk)
structure QE (X:Cx) (e:Expr) (t:TE):Prop where
 o:PE X e t
structure QT (X:Cx) (e:Expr) (t:TT):Prop where
 o:PT X e t
structure QW (X:Cx) (e:Expr) (t:TT):Prop where
 o:PW X e t
structure QA (X:Cx) (e:List Expr) (t:TA):Prop where
 o:PA X e t
structure QS (X:Cx) (e:Stmt) (t:TS):Prop where
 o:PS X e t
structure SR (X:Cx) (e:List Stmt) (t:TS):Prop where
 o:iu X e t
structure QG (X:Cx) (e:Expr) (t:TG):Prop where
 o:PG X e t
structure FW (X:Cx) (e:List Expr) (t:pS):Prop where
 o:v7 X e t
structure QI (X:Cx) (tg e:Expr) (t:TI):Prop where
 o:PI X tg e t
structure QO (X:Cx) (e:Option Expr) (t:TO):Prop where
 o:PO X e t
structure Aa (X:Cx) (e:List Expr) (t:TT):Prop where
 o:qU X e t
abbrev QF (X:Cx) (e:Expr) (f:ay->Option Dat):Prop:=QE X e (tF X.K f)
abbrev gR (X:Cx) (e:Expr) (f:ay->Option Bool):Prop:=QT X e (jT X.K f)
abbrev Ab (X:Cx) (e:Expr) (f:ay->Option Bool):Prop:=QW X e (jT X.K f)
abbrev g5 (X:Cx) (e:List Expr) (f:ay->Option (List Dat)):Prop:=QA X e (AB X.K f)
abbrev jc (X:Cx) (e:Stmt) (f:aD->Option Fl):Prop:=QS X e (oo X.K f)
abbrev jP (X:Cx) (e:List Stmt) (f:aD->Option Fl):Prop:=SR X e (oo X.K f)
abbrev FV (X:Cx) (tg e:Expr) (f:ay->Option (List Dat)):Prop:=QI X tg e (Ma X.K f)
abbrev BK (X:Cx) (e:Option Expr) (f:ay->Option (Option Int)):Prop:=QO X e (Rj X.K f)
variable {x:Str}
theorem ae(i:Nat)(hN:X.N[i]?=some x:=by rfl)(hv:oN X.env.scope x:=by first|exact Or.inl rfl|exact Or.inr (Or.inl rfl)|exact Or.inr (Or.inr rfl))(hd:(x==("__debug__" : Str))=false:=by decide)(gy:(x==("__classdict__" : Str))=false:=by decide):
  QF X (.Name x pos) (aj i):=⟨bA (nh hN hv hd gy) λσ H Q aT=>by
 obtain⟨Av,ρ,d,hA,hE,hf,q⟩:=aT;obtain⟨v,e1,r⟩:=hE i d (join_some hf);exact⟨v,e1,q v H (aO.refl H) r⟩⟩
theorem ai{i j pos}:
  QF X (.Constant (.int i) j pos) (fC (.int i)):=⟨bA MW λσ H Q ⟨Av,ρ,d,hA,hE,hf,q⟩=>by cases hf;exact q _ H (aO.refl H) (.int i)⟩
theorem jC{i j pos}:
  QF X (.Constant (.bool i) j pos) (fC (.bool i)):=⟨bA Qt λσ H Q ⟨Av,ρ,d,hA,hE,hf,q⟩=>by cases hf;exact q _ H (aO.refl H) (.bl i)⟩
theorem mJ{j pos}:
  QF X (.Constant .none j pos) (fC .none):=⟨bA MV λσ H Q ⟨Av,ρ,d,hA,hE,hf,q⟩=>by cases hf;exact q _ H (aO.refl H) .bU⟩
theorem ar{i j pos}:
  QF X (.Constant (.str i) j pos) (fC (.str i)):=⟨bA MT λσ H Q ⟨Av,ρ,d,hA,hE,hf,q⟩=>by cases hf;exact q _ H (aO.refl H) (.str i)⟩
theorem bM(ha:QF X a fa)(he:∀whole,isTrue a X.env whole=(do let v <- whole;standAt a.pos;holding [v] (truthy v)):=by intro _;rfl):
  gR X a (ja fa):=⟨ox (GD ha.o he) λσ H Q aT=>by
 obtain⟨Av,ρ,b,hA,hE,hf,q⟩:=aT;obtain⟨d,e1,hf⟩:=bind_some hf;exact⟨Av,ρ,d,hA,hE,e1,λv H' s r=>⟨b,LV r hf,q H' s⟩⟩⟩
theorem cX(ha:gR X a ft):
  Ab X (.BoolOp .And [a] pos) ft:=⟨Kq ha.o⟩
theorem fR(ha:gR X a ft):
  Ab X (.BoolOp .Or [a] pos) ft:=⟨ML ha.o⟩
variable {gt:ay->Option Bool} {rest:List Expr}
theorem cz(ha:gR X a ft)(hb:Ab X (.BoolOp .And (b::rest) pos) gt):
  Ab X (.BoolOp .And (a::b::rest) pos) (kD ft gt):=⟨AQ (MM ha.o hb.o) λσ H Q aT=>by
 obtain⟨Av,ρ,k,hA,hE,hf,q⟩:=aT;obtain⟨c,e1,hf⟩:=bind_some hf;refine⟨Av,ρ,c,hA,hE,e1,λH1 s1=>?_⟩;cases c with
 |true=>rw[if_pos rfl]at hf ⊢;exact⟨Av,ρ,k,hA.same s1,hE.same s1,hf,λH2 s2=>q H2 (s1.trans s2)⟩
 |false=>rw[if_neg Bool.false_ne_true]at hf ⊢;cases hf;exact q H1 s1⟩
theorem gG(ha:gR X a ft)(hb:Ab X (.BoolOp .Or (b::rest) pos) gt):
  Ab X (.BoolOp .Or (a::b::rest) pos) (pJ ft gt):=⟨AQ (Qm ha.o hb.o) λσ H Q aT=>by
 obtain⟨Av,ρ,k,hA,hE,hf,q⟩:=aT;obtain⟨c,e1,hf⟩:=bind_some hf;refine⟨Av,ρ,c,hA,hE,e1,λH1 s1=>?_⟩;cases c with
 |false=>rw[if_neg Bool.false_ne_true]at hf ⊢;exact⟨Av,ρ,k,hA.same s1,hE.same s1,hf,λH2 s2=>q H2 (s1.trans s2)⟩
 |true=>rw[if_pos rfl]at hf ⊢;cases hf;exact q H1 s1⟩
variable {e:Expr}
theorem cE(h:Ab X e ft):
  gR X e ft:=⟨h.o.pt⟩
theorem dM(ha:gR X a ft):
  gR X (.UnaryOp .Not a pos) (gZ ft):=⟨ox (MN ha.o) λσ H Q aT=>by
 obtain⟨Av,ρ,k,hA,hE,hf,q⟩:=aT;unfold gZ at hf;cases e:ft ρ with
 |none=>rw[e]at hf;cases hf
 |some c=>rw[e]at hf;cases hf;exact⟨Av,ρ,c,hA,hE,e,q⟩⟩
theorem rD{op}(h:QF X a fa):
  QF X (.BoolOp op [a] pos) fa:=⟨MU h.o⟩
theorem rE(ha:QF X a fa)(hb:QF X (.BoolOp .And (b::rest) pos) fb):
  QF X (.BoolOp .And (a::b::rest) pos) (Ht fa fb):=⟨bA (MX ha.o hb.o) λσ H Q aT=>by
 obtain⟨Av,ρ,k,hA,hE,hf,q⟩:=aT;obtain⟨d,e1,Es⟩:=bind_some hf;clear hf;obtain⟨c,e2,hf⟩:=bind_some Es;clear Es;have e3:=pL e2;subst e3;refine⟨Av,ρ,_,hA,hE,e1,λx H1 s1 r=>⟨c,r.kI,?_⟩⟩;cases c with
 |true=>rw[if_pos rfl]at hf ⊢;exact⟨Av,ρ,k,hA.same s1,hE.same s1,hf,λv H2 s2 r2=>q v H2 (s1.trans s2) r2⟩
 |false=>rw[if_neg Bool.false_ne_true]at hf ⊢;cases hf;exact q _ H1 s1 (.bl false)⟩
theorem Dq(ha:QF X a fa)(hb:QF X (.BoolOp .Or (b::rest) pos) fb):
  QF X (.BoolOp .Or (a::b::rest) pos) (Jr fa fb):=⟨bA (pe_or ha.o hb.o) λσ H Q aT=>by
 obtain⟨Av,ρ,k,hA,hE,hf,q⟩:=aT;obtain⟨d,e1,Es⟩:=bind_some hf;clear hf;obtain⟨c,e2,hf⟩:=bind_some Es;clear Es;have e3:=pL e2;subst e3;refine⟨Av,ρ,_,hA,hE,e1,λx H1 s1 r=>⟨c,r.kI,?_⟩⟩;cases c with
 |false=>rw[if_neg Bool.false_ne_true]at hf ⊢;exact⟨Av,ρ,k,hA.same s1,hE.same s1,hf,λv H2 s2 r2=>q v H2 (s1.trans s2) r2⟩
 |true=>rw[if_pos rfl]at hf ⊢;cases hf;exact q _ H1 s1 (.bl true)⟩
theorem qk(hc:gR X c ft)(ha:QF X a fa)(hb:QF X b fb):
  QF X (.IfExp c a b pos) (Js ft fa fb):=⟨bA (yO hc.o ha.o hb.o) λσ H Q aT=>by
 obtain⟨Av,ρ,k,hA,hE,hf,q⟩:=aT;obtain⟨c',e1,hf⟩:=bind_some hf;refine⟨Av,ρ,c',hA,hE,e1,λH1 s1=>?_⟩;cases c' with
 |true=>rw[if_pos rfl]at hf ⊢;exact⟨Av,ρ,k,hA.same s1,hE.same s1,hf,λv H2 s2 r2=>q v H2 (s1.trans s2) r2⟩
 |false=>rw[if_neg Bool.false_ne_true]at hf ⊢;exact⟨Av,ρ,k,hA.same s1,hE.same s1,hf,λv H2 s2 r2=>q v H2 (s1.trans s2) r2⟩⟩
theorem ah:
  g5 X [] aK:=⟨AZ fU λσ H Q ⟨Av,ρ,d,hA,hE,hf,q⟩=>by cases hf;exact q _ H (aO.refl H) .nil⟩
variable {fs:ay->Option (List Dat)} in
theorem af(ha:QF X e fa)(hr:g5 X es fs)(hs:starEach (e::es) X.env=(false,eval e X.env)::starEach es X.env:=by rfl):
  g5 X (e::es) (ax fa fs):=⟨AZ (bR ha.o hr.o hs) λσ H Q aT=>by
 obtain⟨Av,ρ,d,hA,hE,hf,q⟩:=aT;obtain⟨dx,e1,hf⟩:=bind_some hf;obtain⟨ds,e2,hf⟩:=bT hf;subst hf;exact⟨Av,ρ,dx,hA,hE,e1,λx H1 s1 r1=>⟨Av,ρ,ds,hA.same s1,hE.same s1,e2,λxs H2 s2 r2=>q _ H2 (s1.trans s2) (.cons (r1.same s2) r2)⟩⟩⟩
variable {fs:ay->Option (List Dat)} in
theorem dZ{k:Nat}(h:g5 X es fs){x1}:
  QF X (.Tuple es x1 pos) (qG fs):=⟨bA (yM h.o) λσ H Q aT=>by
 obtain⟨Av,ρ,d,hA,hE,hf,q⟩:=aT;obtain⟨ds,e1,hf⟩:=bind_some hf;split at hf
 ·rename_i hz;cases hf;exact⟨Av,ρ,ds,hA,hE,e1,λxs H1 s1 r1=>⟨by rw[r1.length];exact hz,λp hp=>q _ _ (s1.trans (cb hp _)) (.C4 (hA.same s1) hp r1)⟩⟩
 ·cases hf⟩
variable {fs:ay->Option (List Dat)} in
theorem cq(h:g5 X es fs):
  QF X (.List es pos) (lb fs):=⟨bA (jD h.o) λσ H Q aT=>by
 obtain⟨Av,ρ,d,hA,hE,hf,q⟩:=aT;obtain⟨ds,e1,hf⟩:=bind_some hf;split at hf
 ·rename_i hz;cases hf;exact⟨Av,ρ,ds,hA,hE,e1,λxs H1 s1 r1=>⟨by rw[r1.length];exact hz,λp hp=>q _ _ (s1.trans (cb hp _)) (.pw (hA.same s1) hp r1)⟩⟩
 ·cases hf⟩
variable {fs:ay->Option (List Dat)} in
theorem aL{k:Nat}{F:List Dat->Option Dat}(D:Dn X.prog X.w X.K X.mg X.base k x ps n F)(hr:cj k X.A)(ha:g5 X (e::es) fs)(hg:Gl X x:=by rfl)(fO:(x==("__debug__" : Str))=false:=by decide)(he:starEach (e::es) X.env=(false,eval e X.env)::starEach es X.env:=by rfl)(bW:(backTo pos (starEach es X.env)).any (·.1)=false:=by rfl):
  QF X (.Call (.Name x p) (e::es) [] pos) (cu n F fs):=⟨by
 obtain⟨f,fd,h1,h2,h3,h4⟩:=D.ex;exact bA (mO h1 hr hg h2 h3 h4 .nil rH ha.o fO he bW) BS⟩
theorem aE:
  jP X [] dX:=⟨l6 Kt λD σ H ⟨aq,Av,pn,aQ,Γ,fl,G,hf,q⟩=>by cases hf;exact q σ H G⟩
variable {st:Stmt}
variable {g:aD->Option Fl} in
theorem aw(h:jc X st g):
  jP X [st] g:=⟨jY h.o⟩
variable {g1 g2:aD->Option Fl} {rest:List Stmt}
theorem ao(h1:jc X st g1)(h2:jP X rest g2):
  jP X (st::rest) (bG g1 g2):=⟨l6 (gr h1.o h2.o) λD σ H aT=>by
 obtain⟨aq,Av,pn,aQ,Γ,fl,G,hf,q⟩:=aT;obtain⟨nU,e1,hf⟩:=bind_some hf;refine⟨aq,Av,pn,aQ,Γ,nU,G,e1,?_⟩;cases nU with
 |nx au=>exact λbD H' G'=>⟨aq,Av,pn,aQ,au,fl,G',hf,q⟩
 |rt d=>cases hf;exact q
 |bk au=>cases hf;exact q
 |ct au=>cases hf;exact q
 |rm d au=>cases hf;exact q⟩
theorem bS:
  jc X st qe:=⟨cT GK λD σ H ⟨aq,Av,pn,aQ,Γ,fl,G,hf,q⟩=>by cases hf⟩
theorem aN(h:QF X e f):
  jc X (.Return (some e) pos) (iW f):=⟨cT (oy h.o) λD σ H aT=>by
 obtain⟨aq,Av,pn,aQ,Γ,fl,⟨ad,G⟩,hf,q⟩:=aT;obtain⟨d,e1,hf⟩:=bT hf;subst hf;exact⟨Av,bo Γ,d,G.fY.same G.same,G.gE,e1,λv H' s r=>q v H' (G.same.trans s) r⟩⟩
theorem aH{a b:List Stmt}(hc:gR X c ft)(ha:jP X a g1)(hb:jP X b g2):
  jc X (.If c a b pos) (eI ft g1 g2):=⟨cT (ID hc.o ha.o hb.o) λD σ H aT=>by
 obtain⟨aq,Av,pn,aQ,Γ,fl,⟨ad,G⟩,hf,q⟩:=aT;obtain⟨k,e1,hf⟩:=bind_some hf;refine⟨Av,bo Γ,k,G.fY.same G.same,G.gE,e1,λH' s=>?_⟩;cases k with
 |true=>rw[if_pos rfl]at hf ⊢;exact⟨aq,Av,pn,aQ,Γ,fl,⟨ad,G.grow s⟩,hf,q⟩
 |false=>rw[if_neg Bool.false_ne_true]at hf ⊢;exact⟨aq,Av,pn,aQ,Γ,fl,⟨ad,G.grow s⟩,hf,q⟩⟩
variable {pos':Pos}
theorem az(i:Nat)(hN:X.N.Nodup)(h:QF X e f)(hi:X.N[i]?=some x:=by rfl)(hx:Loc X.env.scope x:=by first|exact .inl rfl|exact .inr rfl)(hs:swapsWith e (some (.Name x pos')) pos.line X.env=pure false:=by rfl)(hf:X.fn x=true\/X.env.scope.names.lookup x=some .local:=by first|exact .inl rfl|exact .inr rfl):
  jc X (.Assign [.Name x pos'] e pos) (cW i f):=⟨cT (hZ hN hi hx h.o hs hf) tO⟩
theorem lI(h:QF X e f)(hs:swapsWith e none pos.line X.env=pure false:=by rfl):
  jc X (.Expr e pos) (rn f):=⟨cT (rF h.o hs) λD σ H aT=>by
 obtain⟨aq,Av,pn,aQ,Γ,fl,⟨ad,G⟩,hf,q⟩:=aT;obtain⟨d,e1,hf⟩:=bT hf;subst hf;exact⟨Av,bo Γ,d,G.fY.same G.same,G.gE,e1,λv H' s r=>q _ _ ⟨ad,G.grow s⟩⟩⟩
theorem bp(i:Nat)(hN:X.N.Nodup)(hi:X.N[i]?=some x:=by rfl)(hx:Loc X.env.scope x:=by first|exact .inl rfl|exact .inr rfl)(hf:X.fn x=true\/X.env.scope.names.lookup x=some .local:=by first|exact .inl rfl|exact .inr rfl):
  QG X (.Name x pos) (iN X.K (aName i)):=⟨vz (Kz hN hi hx hf) λv σ H Q ⟨Av,d,as,r,e,q⟩=>by cases e;exact q [(i,v)] (.cons r .nil)⟩
theorem nO:
  FW X [] (vh X.K vS):=⟨yL Ky λvs σ H Q aT=>by
 obtain⟨Av,ds,as,r,e,q⟩:=aT;cases r with
 |nil=>cases e;exact⟨rfl,q [] .nil⟩
 |cons _ _=>cases e⟩
variable {kO:List Expr} {gt:Dat->Option dH} {sf:List Dat->Option dH}
theorem gL(h1:QG X tg (iN X.K gt))(h2:FW X kO (vh X.K sf))(hs:(assignEach (tg::kO) X.env).map (·.2)=assign tg X.env::(assignEach kO X.env).map (·.2):=by rfl):
  FW X (tg::kO) (vh X.K (mE gt sf)):=⟨yL (GO h1.o h2.o hs) λvs σ H Q aT=>by
 obtain⟨Av,ds,as,r,e,q⟩:=aT;cases r with
 |nil=>cases e
 | @cons v Vg d jH rd rr=>
  obtain⟨a,e1,e⟩:=bind_some (show(gt d).bind _=some as from e);obtain⟨b,e2,e⟩:=bT e;subst e;refine⟨v,Vg,rfl,Av,d,a,rd,e1,λws hw=>⟨Av,jH,b,rr,e2,λus hu=>?_⟩⟩;have:=q (ws++us) (hw.append hu);unfold o4 at this ⊢;rw[foldl_append]at this;exact this⟩
theorem sU{k:Nat}(hc:X.calm=true)(h:FW X kO (vh X.K sf))(hn:(assignEach kO X.env).length=n:=by rfl)(gw:(assignEach kO X.env).findIdx? (·.1)=none:=by rfl):
  QG X (.Tuple kO k pos) (iN X.K (qN n sf)):=⟨vz (DB hc h.o hn gw) λv σ H Q aT=>by
 obtain⟨Av,d,as,r,e,q⟩:=aT;unfold qN at e;split at e
 ·split at e
  ·rename_i ds hl;obtain⟨a,xs,rfl,hq,rs⟩:=r.gI;exact⟨a,xs,rfl,hq.sq,by rw[rs.length];exact hl,Av,ds,as,rs,e,q⟩
  ·cases e
 ·cases e⟩
theorem Gy(h:QF X e f)(hg:QG X tg (iN X.K gt))(hs:swapsWithSole [tg] e pos.line X.env=pure false:=by rfl)(hw:swappedStores [tg] e X.env=pure none:=by rfl)(h1:(assignEach [tg] X.env).map (·.2)=[assign tg X.env]:=by rfl):
  jc X (.Assign [tg] e pos) (yr gt f):=⟨cT (MP h.o hg.o hs hw h1) λD σ H aT=>by
 obtain⟨aq,Av,pn,aQ,Γ,fl,⟨ad,G⟩,hf,q⟩:=aT;obtain⟨d,e1,hf⟩:=bind_some hf;obtain⟨as,e2,hf⟩:=bT hf;subst hf;exact⟨cI Av Γ ad,dD Γ,d,G.uS,G.qH,e1,λv H' s r=>⟨cI Av Γ ad,d,as,r,e2,λws hw=>q _ _ ⟨ad,GA.gJ hw (λ_ z=>z) (G.grow s)⟩⟩⟩⟩
variable {body:List Stmt}
theorem l4{gb:aD->Option Fl}(hp:PassesOwn (model X.prog X.w) X.A X.env X.xe)(hc:X.calm=true)(hi:QF X iter f)(hg:QG X tg (iN X.K gt))(hb:jP X body gb)(hs:∀x,foldedSetIterable iter X.env x=pure x:=by intro _;rfl):
  jc X (.For tg iter body [] pos) (BX gt gb f):=⟨cT (yI hp hc (qp hi.o) hg.o hb.o hs) λD σ H aT=>by
 obtain⟨aq,Av,pn,aQ,Γ,fl,⟨ad,G⟩,hf,q⟩:=aT;obtain⟨d,e1,hf⟩:=bind_some hf;obtain⟨ds,e2,hf⟩:=bind_some hf;refine⟨cI Av Γ ad,dD Γ,d,G.uS,G.qH,e1,λx H1 s1 r=>?_⟩;cases d with
 |list jH=>
  cases e2;obtain⟨a,xs,rfl,hq,rs⟩:=r.eZ;exact⟨a,rfl,.inl ⟨⟨xs,hq.sq⟩,qF lK ⟨ad,(G.grow s1).hide r⟩ hf q⟩⟩
 |tuple jH=>
  cases e2;obtain⟨a,xs,rfl,hq,rs⟩:=r.gI;exact⟨a,rfl,.inr ⟨⟨xs,hq.sq⟩,qF nq ⟨ad,(G.grow s1).hide r⟩ hf q⟩⟩
 |_=>cases e2⟩
variable {fs:ay->Option (List Dat)} in
theorem ub{gb:aD->Option Fl}(hp:PassesOwn (model X.prog X.w) X.A X.env X.xe)(hc:X.calm=true)(hm:X.mg "range"=none)(ha:g5 X [a] fs)(hg:QG X tg (iN X.K gt))(hb:jP X body gb)(O3:Gl X "range":=by rfl)(gw:starEach [a] X.env=[(false,eval a X.env)]:=by rfl)(hs:∀x,foldedSetIterable (.Call (.Name "range" p) [a] [] pos') X.env x=pure x:=by intro _;rfl):
  jc X (.For tg (.Call (.Name "range" p) [a] [] pos') body [] pos) (xB oX gt gb fs):=⟨cT (yI hp hc (wx O3 hm ha.o gw) hg.o hb.o hs) λD σ H aT=>by
 obtain⟨aq,Av,pn,aQ,Γ,fl,⟨ad,G⟩,hf,q⟩:=aT;obtain⟨as,e1,hf⟩:=bind_some hf;obtain⟨ds,e2,hf⟩:=bind_some hf;refine⟨Av,bo Γ,as,G.fY.same G.same,G.gE,e1,λvs H1 s1 r=>?_⟩;unfold oX at e2;split at e2
 ·rename_i j;split at e2
  ·rename_i hj;cases e2;obtain⟨v,rfl,rv⟩:=r.cJ;rw[rv.fH];exact⟨j,rfl,hj.1,hj.2,qF ue ⟨ad,(G.grow s1).hide .bU⟩ hf q⟩
  ·cases e2
 ·cases e2⟩
theorem u0(fuel:aD->Nat){gb:aD->Option Fl}(hp:PassesOwn (model X.prog X.w) X.A X.env X.xe)(hc:gR X c ft)(hb:jP X body gb):
  jc X (.While c body [] pos) (yp fuel ft gb):=⟨cT (GJ hp hc.o hb.o) λD σ H aT=>by
 obtain⟨aq,Av,pn,aQ,Γ,fl,G,hf,q⟩:=aT;refine⟨λm σ H=>∃Γ,jy X.K aq Av pn aQ H σ Γ/\iL ft gb m Γ=some fl,⟨_,Γ,G,hf⟩,?_⟩;rintro m σ H ⟨Γ,⟨ad,G⟩,hf⟩;cases m with
 |zero=>cases hf
 |succ m=>
  obtain⟨k,e1,hf⟩:=bind_some (show(ft (bo Γ)).bind _=some fl from hf);refine⟨Av,bo Γ,k,G.fY.same G.same,G.gE,e1,λH1 s1=>?_⟩;cases k with
  |false=>
   rw[if_neg Bool.false_ne_true]at hf ⊢;cases hf;exact q σ H1 ⟨ad,G.grow s1⟩
  |true=>
   rw[if_pos rfl]at hf ⊢;obtain⟨nU,e2,hf⟩:=bind_some hf;refine⟨λbD H'=>∃au,jy X.K aq Av pn aQ H' bD au/\iL ft gb m au=some fl,λbD H' ⟨au,G',h'⟩=>⟨m,Nat.lt_succ_self m,au,G',h'⟩,aq,Av,pn,aQ,Γ,nU,⟨ad,G.grow s1⟩,e2,?_⟩;cases nU with
   |nx au=>exact λdU H2 G2=>⟨au,G2,hf⟩
   |ct au=>exact λdU H2 G2=>⟨au,G2,hf⟩
   |bk au=>cases hf;exact λdU H2 G2=>q dU H2 G2
   |rt v=>cases hf;exact q
   |rm v au=>cases hf;exact q⟩
variable {fs:ay->Option (List Dat)} in
theorem j6(h:g5 X es fs):
  QE X (.List es pos) (kP X.K (EJ fs)):=⟨bA (jD h.o) λσ H Q aT=>by
 obtain⟨Av,ρ,d,hA,hE,hf,q⟩:=aT;obtain⟨ds,e1,hf⟩:=bind_some hf;obtain⟨hz,e2⟩:=Bm hf;cases e2;exact⟨Av,ρ,d,hA,hE,e1,λxs H1 s1 r1=>⟨by rw[r1.length];exact hz,λp hp=>q H1 p xs s1 hp r1⟩⟩⟩
variable {fs:ay->Option (List Dat)} in
theorem iy(i:Nat)(hN:X.N.Nodup)(h:QE X e (kP X.K fs))(wN:i≠0:=by decide)(hi:X.N[i]?=some x:=by rfl)(hx:Loc X.env.scope x:=by first|exact .inl rfl|exact .inr rfl)(hs:swapsWith e (some (.Name x pos')) pos.line X.env=pure false:=by rfl)(hf:X.fn x=true\/X.env.scope.names.lookup x=some .local:=by first|exact .inl rfl|exact .inr rfl):
  jc X (.Assign [.Name x pos'] e pos) (yq i fs):=⟨cT (hZ hN hi hx h.o hs hf) λD σ H aT=>by
 obtain⟨aq,Av,pn,aQ,Γ,fl,⟨ad,G⟩,hf,q⟩:=aT;obtain⟨ds,e1,hf⟩:=bT hf;subst hf;exact⟨cI Av Γ ad,dD Γ,ds,G.uS,G.qH,e1,λH1 p xs s hp r=>q _ _ ⟨_,(G.grow s).Dd i wN hp r⟩⟩⟩
variable {p1 p2 p3:Pos}
theorem gU(i:Nat)(h:QF X e f)(hN:X.N[i]?=some x:=by rfl)(hv:oN X.env.scope x:=by first|exact Or.inl rfl|exact Or.inr (Or.inl rfl)|exact Or.inr (Or.inr rfl))(hd:(x==("__debug__" : Str))=false:=by decide)(gy:(x==("__classdict__" : Str))=false:=by decide)(dS:attributeBase (.Name x p1) "append" X.env (eval (.Name x p1) X.env)=eval (.Name x p1) X.env:=by rfl)(gV:((backTo p3 (starEach [e] X.env)).all (λx=>!x.1)&&(backToKw p3 (keywordEach [] X.env)).all (λx=>x.1.isSome)&&decide (([e]:List Expr).length+([]:List Keyword).length+(if([]:List Keyword).isEmpty then 0 else 1)<30))=true:=by rfl)(dR:(p2.endLine==p3.line)=true:=by rfl)(kc:starEach [e] X.env=(false,eval e X.env)::starEach [] X.env:=by rfl)(ez:(backTo p3 (starEach [] X.env)).any (·.1)=false:=by rfl)(hs:swapsWith (.Call (.Attribute (.Name x p1) "append" p2) [e] [] p3) none pos.line X.env=pure false:=by rfl):
  jc X (.Expr (.Call (.Attribute (.Name x p1) "append" p2) [e] [] p3) pos) (lZ i f):=⟨cT (rF (nQ plainAttrs_list PySem.F.slot_list_append PySem.F.type_list_append E4 (nh hN hv hd gy) (bR h.o fU kc) dS gV dR kc ez) hs) λD σ H aT=>by
 obtain⟨aq,Av,pn,aQ,Γ,fl,⟨ad,G⟩,hf,q⟩:=aT;unfold lZ at hf;split at hf
 ·rename_i ds hi;obtain⟨d,e1,hf⟩:=bind_some hf;obtain⟨hz,hf⟩:=Bm hf;cases hf;obtain⟨xs,g1,g2,g3,g4⟩:=G.own i ds hi;refine⟨_,g1,.inl ⟨rfl,xs,.of g2⟩,cI Av Γ ad,dD Γ,d,G.uS,G.qH,e1,λv H1 s1 r=>?_⟩;have G1:=G.grow s1;obtain⟨Vb,k1,k2,k3,k4⟩:=G1.own i ds hi;exact⟨_,Vb,v,rfl,rfl,k2,by rw[k3.length];exact hz,q _ _ ⟨ad,G1.change hi (k3.append (.cons r .nil))⟩⟩
 ·cases hf⟩
variable {qual:Str} {fd:FuncData} {N:List Str}
theorem MK{K:Fg}{fa:Addr}{k:Nat}{g:aD->Option Fl}{F:List Dat->Option Dat}(U:mw K x qual st fa fd)(hm:mg x=some (.ref fa))(hB:Binds K fd ps [])(S:eh N ps (aP st))(hn:ps.length=n)(hbody:∀(bJ:Value) (A:Around) (outer:List Env) (s:Shared) (H:Hp) (E:XK),cj k (A.deeper (envOfC qual (aP st) s.heap.objs.size fa bJ))->jP (g9 j0 P w K mg base N qual (aP st) fa bJ A outer s H E).lL (d4 st) g)(hF:∀ds d,ds.length=n->F ds=some d->gq N g ds=some d):
  Dn P w K mg base (k+1) x ps n F:=
 R4 (U:=U) (hm:=hm) (hB:=hB) (S:=S) (hn:=hn) (hbody:=(λa b c d e f g=>(hbody a b c d e f g).o)) (hF:=hF)
theorem fm(ha:QF X a fa)(hb:QF X b fb):
  QF X (.BinOp a .Add b pos) (f2 mf fa fb):=⟨kA (yU.or pq) (by
 intro H Av x y dx dy d Q hA rx ry h q;unfold mf at h;split at h
 ·cases h;exact .inl ⟨_,_,rx.fH,ry.fH,q _ H (aO.refl H) (.int _)⟩
 ·split at h
  ·rename_i hz;cases h;exact .inr ⟨_,_,rx.cy,ry.cy,hz,q _ H (aO.refl H) (.str _)⟩
  ·cases h
 ·cases h) ha.o hb.o⟩
theorem ow(ha:QF X a fa)(hb:QF X b fb):
  QF X (.BinOp a .Sub b pos) (f2 vm fa fb):=⟨kA KD rJ ha.o hb.o⟩
theorem eQ(ha:QF X a fa)(hb:QF X b fb):
  QF X (.BinOp a .Mult b pos) (f2 pB fa fb):=⟨kA KI rJ ha.o hb.o⟩
theorem ck(ha:QF X a fa)(hb:QF X b fb):
  QF X (.BinOp a .FloorDiv b pos) (f2 mD fa fb):=⟨kA GW rJ ha.o hb.o⟩
theorem bh(ha:QF X a fa)(hb:QF X b fb):
  QF X (.BinOp a .Mod b pos) (f2 iE fa fb):=⟨kA GV rJ ha.o hb.o⟩
theorem rC(ha:QF X a fa)(hb:QF X b fb):
  QF X (.BinOp a .Pow b pos) (f2 yK fa fb):=⟨kA N4 rJ ha.o hb.o⟩
theorem Ko(ha:QF X a fa)(hb:QF X b fb):
  QF X (.BinOp a .RShift b pos) (f2 Mn fa fb):=⟨kA KG rJ ha.o hb.o⟩
theorem yE(ha:QF X a fa)(hb:QF X b fb):
  QF X (.Compare a [.Lt] [b] pos) (f2 B7 fa fb):=⟨n9 IG lu ha.o hb.o (gN _)⟩
theorem MI(ha:QF X a fa)(hb:QF X b fb):
  QF X (.Compare a [.Gt] [b] pos) (f2 wR fa fb):=⟨n9 IH lu ha.o hb.o (gN _)⟩
theorem rA(ha:QF X a fa)(hb:QF X b fb):
  gR X (.Compare a [.Lt] [b] pos) (aZ (f2 B7 fa fb)):=⟨i5 IG lu ha.o hb.o (gN _)⟩
theorem Km(ha:QF X a fa)(hb:QF X b fb):
  gR X (.Compare a [.LtE] [b] pos) (aZ (f2 rZ fa fb)):=⟨i5 uf lu ha.o hb.o (gN _)⟩
theorem dP(ha:QF X a fa)(hb:QF X b fb):
  gR X (.Compare a [.Gt] [b] pos) (aZ (f2 wR fa fb)):=⟨i5 IH lu ha.o hb.o (gN _)⟩
theorem Kn(ha:QF X a fa)(hb:QF X b fb):
  gR X (.Compare a [.GtE] [b] pos) (aZ (f2 Sm fa fb)):=⟨i5 Qv lu ha.o hb.o (gN _)⟩
theorem mK(ha:QF X a fa):
  QF X (.UnaryOp .USub a pos) (f1 qx fa):=⟨Qq LO (by
 intro H Av x dx d Q hA rx h q;unfold qx at h;split at h
 ·cases h;exact⟨_,rx.fH,q _ H (aO.refl H) (.int _)⟩
 ·cases h) ha.o⟩
theorem yG{k:Nat}(hr:cj k X.A)(ha:QF X a fa)(hb:QF X b fb):
  QF X (.Compare a [.Eq] [b] pos) (f2 d8 fa fb):=⟨n9 (II.or (DM hr.units)) DP ha.o hb.o (gN _)⟩
theorem Dt{k:Nat}(hr:cj k X.A)(ha:QF X a fa)(hb:QF X b fb):
  QF X (.Compare a [.NotEq] [b] pos) (f2 gi fa fb):=⟨n9 (IF.or (DJ hr.units)) DN ha.o hb.o (gN _)⟩
theorem aX{k:Nat}(hr:cj k X.A)(ha:QF X a fa)(hb:QF X b fb):
  gR X (.Compare a [.Eq] [b] pos) (aZ (f2 d8 fa fb)):=⟨i5 (II.or (DM hr.units)) DP ha.o hb.o (gN _)⟩
theorem gH{k:Nat}(hr:cj k X.A)(ha:QF X a fa)(hb:QF X b fb):
  gR X (.Compare a [.NotEq] [b] pos) (aZ (f2 gi fa fb)):=⟨i5 (IF.or (DJ hr.units)) DN ha.o hb.o (gN _)⟩
variable {fs:ay->Option (List Dat)} in
theorem vx(hm:X.mg "abs"=none)(ha:g5 X (e::es) fs)(hg:Gl X "abs":=by rfl)(he:starEach (e::es) X.env=(false,eval e X.env)::starEach es X.env:=by rfl)(bW:(backTo pos (starEach es X.env)).any (·.1)=false:=by rfl):
  QF X (.Call (.Name "abs" p) (e::es) [] pos) (dJ Cw fs):=⟨pj HR Fh hm ha.o hg (by decide +kernel) (by decide) (by decide) he bW⟩
variable {fs:ay->Option (List Dat)} in
theorem aY(hm:X.mg "len"=none)(ha:g5 X (e::es) fs)(hg:Gl X "len":=by rfl)(he:starEach (e::es) X.env=(false,eval e X.env)::starEach es X.env:=by rfl)(bW:(backTo pos (starEach es X.env)).any (·.1)=false:=by rfl):
  QF X (.Call (.Name "len" p) (e::es) [] pos) (dJ dC fs):=⟨pj HQ F9 hm ha.o hg (by decide +kernel) (by decide) (by decide) he bW⟩
variable {fs:ay->Option (List Dat)} in
theorem yD(hm:X.mg "str"=none)(ha:g5 X (e::es) fs)(hg:Gl X "str":=by rfl)(he:starEach (e::es) X.env=(false,eval e X.env)::starEach es X.env:=by rfl)(bW:(backTo pos (starEach es X.env)).any (·.1)=false:=by rfl):
  QF X (.Call (.Name "str" p) (e::es) [] pos) (dJ sM fs):=⟨nP zW F7 hm ha.o hg (by decide +kernel) (by decide) (by decide) he bW⟩
variable {fs:ay->Option (List Dat)} in
theorem pf(hm:X.mg "int"=none)(ha:g5 X (e::es) fs)(hg:Gl X "int":=by rfl)(he:starEach (e::es) X.env=(false,eval e X.env)::starEach es X.env:=by rfl)(bW:(backTo pos (starEach es X.env)).any (·.1)=false:=by rfl):
  QF X (.Call (.Name "int" p) (e::es) [] pos) (dJ intD fs):=⟨nP F3 Fb hm ha.o hg (by decide +kernel) (by decide) (by decide) he bW⟩
theorem C1(T:String){TS:Str}(hm:X.mg "isinstance"=none)(Jb:X.mg TS=none)(ha:QF X a fa)(hv:bootBuiltins TS=some (.type T):=by decide +kernel)(hg:Gl X "isinstance":=by rfl)(WC:Gl X TS:=by rfl)(hn:TS≠"__name__":=by decide)(fO:(TS==("__debug__" : Str))=false:=by decide)(he:starEach [a,.Name TS p2] X.env=(false,eval a X.env)::starEach [.Name TS p2] X.env:=by rfl)(WL:starEach [.Name TS p2] X.env=(false,eval (.Name TS p2) X.env)::starEach [] X.env:=by rfl)(bW:(backTo pos (starEach [.Name TS p2] X.env)).any (·.1)=false:=by rfl):
  QF X (.Call (.Name "isinstance" p) [a,.Name TS p2] [] pos) (f1 (ND T) fa):=⟨bA (pk (Al T) hg hm (by decide +kernel) (bR ha.o (bR (KC (v:=.ty T) WC Jb hv rfl hn fO) fU WL) he) (by decide) (by decide) he bW) λσ H Q aT=>by
  obtain⟨Av,ρ,d,hA,hE,hf,q⟩:=aT;obtain⟨dx,e1,hf⟩:=bind_some hf;obtain⟨k,rfl⟩:=Hj hf;exact⟨Av,ρ,dx,hA,hE,e1,λx H1 s1 r1=>⟨Av,x,dx,k,rfl,r1,hf,q _ H1 s1 (.bl k)⟩⟩⟩
theorem aB(ha:QF X a fa)(hb:QF X b fb)(hs:BL b:=by exact λ_ _=>rfl):
  QF X (.Subscript a b pos) (f2 bu fa fb):=⟨bA (Qs (fo.or NC) ha.o hb.o hs) (qZ (by
 intro H Av x y dx dy d Q hA rx ry h q;unfold bu at h;split at h
 ·obtain⟨p,xs,rfl,hq,rs⟩:=rx.eZ;obtain⟨v,hv,rv⟩:=rs.iZ h;exact .inl ⟨p,xs,_,v,rfl,ry.fH,hq.sq,hv,q v H (aO.refl H) rv⟩
 ·obtain⟨p,xs,rfl,hq,rs⟩:=rx.gI;obtain⟨v,hv,rv⟩:=rs.iZ h;exact .inr ⟨p,xs,_,v,rfl,ry.fH,hq.sq,hv,q v H (aO.refl H) rv⟩
 ·cases h))⟩
theorem bj:
  BK X none eE:=⟨AY Kw λσ H Q ⟨Av,ρ,o,hA,hE,hf,q⟩=>by cases hf;exact q H (aO.refl H)⟩
theorem aV(h:QF X e f):
  BK X (some e) (dI f):=⟨AY (Kv h.o) λσ H Q aT=>by
 obtain⟨Av,ρ,o,hA,hE,hf,q⟩:=aT;obtain⟨d,e1,hf⟩:=bind_some hf;obtain⟨i,e2,zv⟩:=bT hf;subst zv;have e3:=HV e2;rw[e3]at e1;exact⟨Av,ρ,_,hA,hE,e1,λx H' s r=>⟨i,r.fH,q H' s⟩⟩⟩
variable {elt:Expr} {ifs:List Expr} {cl:List (Str×Addr)} {N':List Str}
theorem fK{cap:List (Option Nat)}{fi:ay->Option Dat}(hc:X.calm=true)(B:pU X scope cl N' cap)(hi:QF X iter fi)(hg:∀C aC aq ex,QG (kX X scope cl N' C aC aq ex) tg (iN X.K gt))(ht:∀C aC aq ex,Aa (kX X scope cl N' C aC aq ex) ifs (jT X.K ft))(he:∀C aC aq ex,QF (kX X scope cl N' C aC aq ex) elt fe)(hT:mh gt cap)(hs:∀x,foldedSetIterable iter X.env x=pure x:=by intro _;rfl):
  QE X (.ListComp elt [⟨tg,iter,ifs,0⟩] scope pos) (kP X.K (d7 cap gt ft fe fi)):=⟨bA (vA hc B (qp hi.o) ((λC aC aq ex=>(hg C aC aq ex).o)) ((λC aC aq ex=>(ht C aC aq ex).o)) ((λC aC aq ex=>(he C aC aq ex).o)) hs) (JY hT)⟩
variable {fs:ay->Option (List Dat)} in
theorem dj(h:QE X e (kP X.K fs)):
  QF X e (fL fs):=⟨bA h.o λσ H Q aT=>by
 obtain⟨Av,ρ,d,hA,hE,hf,q⟩:=aT;obtain⟨ds,e1,hf⟩:=bT hf;subst hf;exact⟨Av,ρ,ds,hA,hE,e1,λH1 p xs s hp r=>q _ _ (s.trans (cb hp _)) (.pw (hA.same s) hp r)⟩⟩
theorem dY:
  Aa X [] (jT X.K cQ):=⟨λpins s σ H Q I ⟨Av,ρ,b,hA,hE,hf,q⟩=>by cases hf;exact Ks pins s σ H Q I (q H (aO.refl H))⟩
theorem gK(h:gR X c ft):
  Aa X [c] (jT X.K ft):=⟨Kr h.o⟩
variable {fs:ay->Option (List Dat)} in
theorem Gv(i j:Nat){y:Str}{px py pt:Pos}{kt k2 yH}(hc:X.calm=true)(hN:X.N.Nodup)(O0:i≠j)(ha:g5 X [a,b] fs)(hi:X.N[i]?=some x:=by rfl)(hj:X.N[j]?=some y:=by rfl)(hx:X.env.scope.names.lookup x=some .local:=by rfl)(hy:X.env.scope.names.lookup y=some .local:=by rfl)(hw:swappedStores [.Tuple [.Name x px,.Name y py] kt pt] (.Tuple [a,b] k2 yH) X.env=pure (some [x,y]):=by rfl)(hs:swapsWithSole [.Tuple [.Name x px,.Name y py] kt pt] (.Tuple [a,b] k2 yH) pos.line X.env=pure false:=by rfl):
  jc X (.Assign [.Tuple [.Name x px,.Name y py] kt pt] (.Tuple [a,b] k2 yH) pos) (Gn i j fs):=⟨cT (MO hc hN hi hj O0 hx hy ha.o hw hs) λD σ H aT=>by
 obtain⟨aq,Av,pn,aQ,Γ,fl,⟨ad,G⟩,hf,q⟩:=aT;obtain⟨ds,e1,hf⟩:=bind_some hf;refine⟨cI Av Γ ad,dD Γ,ds,G.uS,G.qH,e1,λvs H1 s1 r=>?_⟩;match ds,hf with
 |[d,d'],hf=>
  cases hf;obtain⟨v,u,rfl,rv,ru⟩:=r.JW;exact⟨v,u,rfl,q _ _ ⟨ad,((G.grow s1).set i rv).set j (ru.weak cI.fk)⟩⟩⟩
variable {o:Expr}
variable {fs:ay->Option (List Dat)} in
theorem pe(ho:QF X o f)(ha:g5 X [e] fs)(dS:attributeBase o "join" X.env (eval o X.env)=eval o X.env:=by rfl)(gV:((backTo p3 (starEach [e] X.env)).all (λx=>!x.1)&&(backToKw p3 (keywordEach [] X.env)).all (λx=>x.1.isSome)&&decide (([e]:List Expr).length+([]:List Keyword).length+(if([]:List Keyword).isEmpty then 0 else 1)<30))=true:=by rfl)(dR:(p2.endLine==p3.line)=true:=by rfl)(kc:starEach [e] X.env=(false,eval e X.env)::starEach [] X.env:=by rfl)(ez:(backTo p3 (starEach [] X.env)).any (·.1)=false:=by rfl):
  QF X (.Call (.Attribute o "join" p2) [e] [] p3) (fP mB f fs):=⟨bA (nQ plainAttrs_str PySem.F.slot_str_join PySem.F.type_str_join KS ho.o ha.o dS gV dR kc ez) λσ H Q aT=>by
  obtain⟨Av,ρ,d,hA,hE,hf,q⟩:=aT;obtain⟨dx,e1,hf⟩:=bind_some hf;obtain⟨ds,e2,hf⟩:=bind_some hf;unfold mB at hf;split at hf
  ·obtain⟨ys,e3,hf⟩:=bind_some hf;split at hf
   ·rename_i hz;cases hf;refine⟨Av,ρ,_,hA,hE,e1,λx H1 s1 r1=>⟨by rw[r1.cy];exact rfl,Av,ρ,_,hA.same s1,hE.same s1,e2,λxs H2 s2 r2=>?_⟩⟩;obtain⟨v,rfl,rv⟩:=r2.cJ;obtain⟨p,vs,rfl,hq,rs⟩:=rv.eZ;exact⟨Av,_,p,vs,_,ys,r1.cy,rfl,hq.sq,rs,e3,hz,q _ H2 (s1.trans s2) (.str _)⟩
   ·cases hf
  ·cases hf⟩
theorem yF(ha:QF X a fa)(hb:QF X b fb)(hm:behindInMarks .In b=false:=by with_unfolding_all rfl):
  QF X (.Compare a [.In] [b] pos) (f2 inD fa fb):=⟨n9 (wB.or wA) DO ha.o hb.o hm⟩
theorem Ds(ha:QF X a fa)(hb:QF X b fb)(hm:behindInMarks .NotIn b=false:=by with_unfolding_all rfl):
  QF X (.Compare a [.NotIn] [b] pos) (f2 f7 fa fb):=⟨n9 (qr.or qq) wC ha.o hb.o hm⟩
theorem rB(ha:QF X a fa)(hb:QF X b fb)(hm:behindInMarks .In b=false:=by with_unfolding_all rfl):
  gR X (.Compare a [.In] [b] pos) (aZ (f2 inD fa fb)):=⟨i5 (wB.or wA) DO ha.o hb.o hm⟩
theorem iA(ha:QF X a fa)(hb:QF X b fb)(hm:behindInMarks .NotIn b=false:=by with_unfolding_all rfl):
  gR X (.Compare a [.NotIn] [b] pos) (aZ (f2 f7 fa fb)):=⟨i5 (qr.or qq) wC ha.o hb.o hm⟩
theorem Dl(ha:QF X a fa)(hb:QF X b fb):
  gR X (.Compare a [.IsNot] [b] pos) (aZ (f2 uh fa fb)):=⟨i5 KH GX ha.o hb.o (gN _)⟩
variable {fs:ay->Option (List Dat)} in
theorem Dm(hm:X.mg "list"=none)(ha:g5 X (e::es) fs)(hg:Gl X "list":=by rfl)(he:starEach (e::es) X.env=(false,eval e X.env)::starEach es X.env:=by rfl)(bW:(backTo pos (starEach es X.env)).any (·.1)=false:=by rfl):
  QE X (.Call (.Name "list" p) (e::es) [] pos) (kP X.K λρ=>(fs ρ).bind C5):=⟨bA (wy zX hg hm (by decide +kernel) ha.o (by decide) (by decide) he bW) λσ H Q aT=>by
 obtain⟨Av,ρ,ds,hA,hE,hf,q⟩:=aT;obtain⟨as,e1,hf⟩:=bind_some hf;refine⟨Av,ρ,as,hA,hE,e1,λvs H1 s1 r=>?_⟩;unfold C5 at hf;split at hf
 ·cases hf;obtain⟨v,rfl,rv⟩:=r.cJ;obtain⟨p,xs,rfl,hq,rs⟩:=rv.eZ;exact⟨p,xs,rfl,.inl hq.sq,λl hl=>q H1 l xs s1 hl rs⟩
 ·cases hf;obtain⟨v,rfl,rv⟩:=r.cJ;obtain⟨p,xs,rfl,hq,rs⟩:=rv.gI;exact⟨p,xs,rfl,.inr hq.sq,λl hl=>q H1 l xs s1 hl rs⟩
 ·cases hf⟩
variable {fs:ay->Option (List Dat)} in
theorem wm(hm:X.mg "tuple"=none)(ha:g5 X (e::es) fs)(hg:Gl X "tuple":=by rfl)(he:starEach (e::es) X.env=(false,eval e X.env)::starEach es X.env:=by rfl)(bW:(backTo pos (starEach es X.env)).any (·.1)=false:=by rfl):
  QF X (.Call (.Name "tuple" p) (e::es) [] pos) (dJ km fs):=⟨nP xr Am hm ha.o hg (by decide +kernel) (by decide) (by decide) he bW⟩
variable {fs:ay->Option (List Dat)} in
theorem g8(ho:QF X o f)(ha:g5 X [e] fs)(dS:attributeBase o "startswith" X.env (eval o X.env)=eval o X.env:=by rfl)(gV:((backTo p3 (starEach [e] X.env)).all (λx=>!x.1)&&(backToKw p3 (keywordEach [] X.env)).all (λx=>x.1.isSome)&&decide (([e]:List Expr).length+([]:List Keyword).length+(if([]:List Keyword).isEmpty then 0 else 1)<30))=true:=by rfl)(dR:(p2.endLine==p3.line)=true:=by rfl)(kc:starEach [e] X.env=(false,eval e X.env)::starEach [] X.env:=by rfl)(ez:(backTo p3 (starEach [] X.env)).any (·.1)=false:=by rfl):
  QF X (.Call (.Attribute o "startswith" p2) [e] [] p3) (fP fA f fs):=⟨bA (nQ plainAttrs_str PySem.F.slot_str_startswith PySem.F.type_str_startswith E3 ho.o ha.o dS gV dR kc ez) λσ H Q aT=>by
  obtain⟨Av,ρ,d,hA,hE,hf,q⟩:=aT;obtain⟨dx,e1,hf⟩:=bind_some hf;obtain⟨ds,e2,hf⟩:=bind_some hf;unfold fA at hf;split at hf
  ·cases hf;refine⟨Av,ρ,_,hA,hE,e1,λx H1 s1 r1=>⟨by rw[r1.cy];exact rfl,Av,ρ,_,hA.same s1,hE.same s1,e2,λxs H2 s2 r2=>?_⟩⟩;obtain⟨v,rfl,rv⟩:=r2.cJ;exact⟨_,_,r1.cy,by rw[rv.cy],q _ H2 (s1.trans s2) (.bl _)⟩
  ·cases hf⟩
variable {lo hi:Option Expr} {fl fh:ay->Option (Option Int)}
theorem br(h:QF X e f)(hl:BK X lo fl)(hh:BK X hi fh):
  QF X (.Subscript e (.Slice lo hi none p2) pos) (gD f fl fh):=⟨bA (yN Mm h.o hl.o hh.o) λσ H Q aT=>by
 obtain⟨Av,ρ,d,hA,hE,hf,q⟩:=aT;obtain⟨dx,e1,hf⟩:=bind_some hf;obtain⟨l,e2,hf⟩:=bind_some hf;obtain⟨u,e3,hf⟩:=bind_some hf;unfold nZ at hf;split at hf
 ·split at hf
  ·rename_i hz;cases hf;refine⟨Av,ρ,_,hA,hE,e1,λx H1 s1 r1=>⟨Av,ρ,l,hA.same s1,hE.same s1,e2,λH2 s2=>⟨Av,ρ,u,hA.same (s1.trans s2),hE.same (s1.trans s2),e3,λH3 s3=>?_⟩⟩⟩;exact⟨_,r1.cy,hz,q _ H3 (s1.trans (s2.trans s3)) (.str _)⟩
  ·cases hf
 ·cases hf⟩
theorem eT{i:Int}(hm:∃t,X.mg x=some (.int i t))(hg:Gl X x:=by rfl)(hd:(x==("__debug__" : Str))=false:=by decide):
  QF X (.Name x p) (fC (.int i)):=⟨by
 obtain⟨t,hm⟩:=hm;exact bA (mM (v:=.int i) hg hm ⟨t,rfl⟩ hd) λσ H Q ⟨Av,ρ,d,hA,hE,hf,q⟩=>by cases hf;exact q _ H (aO.refl H) (.int i)⟩
theorem ql{y:Str}(hm:∃t,X.mg x=some (.str y t))(hg:Gl X x:=by rfl)(hd:(x==("__debug__" : Str))=false:=by decide):
  QF X (.Name x p) (fC (.str y)):=⟨by
 obtain⟨t,hm⟩:=hm;exact bA (mM (v:=.str y) hg hm ⟨t,rfl⟩ hd) λσ H Q ⟨Av,ρ,d,hA,hE,hf,q⟩=>by cases hf;exact q _ H (aO.refl H) (.str y)⟩
theorem il{a:Addr}(hm:X.mg x=some (.ref a))(ht:ModT X.K a ds)(hg:Gl X x:=by rfl)(hd:(x==("__debug__" : Str))=false:=by decide):
  QF X (.Name x p) (fC (.tuple ds)):=⟨by
 obtain⟨xs,o,aA,n,h1,h2,h3,h4,h5,h6⟩:=ht;exact bA (mM (v:=.ref a) hg hm rfl hd) λσ H Q ⟨Av,ρ,d,hA,hE,hf,q⟩=>by cases hf;exact q _ H (aO.refl H) (.tup (.inr ⟨o,aA,n,h1,h2,h3,h4,h5⟩) (h6 H Av))⟩
variable {fs:ay->Option (List Dat)} in
theorem GC(hm:X.mg "int"=none)(ha:g5 X (e::es) fs)(hg:Gl X "int":=by rfl)(he:starEach (e::es) X.env=(false,eval e X.env)::starEach es X.env:=by rfl)(bW:(backTo pos (starEach es X.env)).any (·.1)=false:=by rfl):
  QF X (.Call (.Name "int" p) (e::es) [] pos) (dJ xK fs):=⟨nP F2 Cs hm ha.o hg (by decide +kernel) (by decide) (by decide) he bW⟩
variable {fs:ay->Option (List Dat)} in
theorem vw(hc:X.calm=true)(hm:X.mg "all"=none)(ha:g5 X (e::es) fs)(hg:Gl X "all":=by rfl)(he:starEach (e::es) X.env=(false,eval e X.env)::starEach es X.env:=by rfl)(bW:(backTo pos (starEach es X.env)).any (·.1)=false:=by rfl):
  QF X (.Call (.Name "all" p) (e::es) [] pos) (dJ tv fs):=⟨pj (F4 hc) Fe hm ha.o hg (by decide +kernel) (by decide) (by decide) he bW⟩
theorem p9{cap:List (Option Nat)}{fi:ay->Option Dat}(hc:X.calm=true)(B:pU X scope cl N' cap)(hi:QF X iter fi)(hg:∀C aC aq ex,QG (kX X scope cl N' C aC aq ex) tg (iN X.K gt))(ht:∀C aC aq ex,Aa (kX X scope cl N' C aC aq ex) ifs (jT X.K ft))(he:∀C aC aq ex,QF (kX X scope cl N' C aC aq ex) elt fe)(hT:mh gt cap)(hs:∀x,foldedSetIterable iter X.env x=pure x:=by intro _;rfl):
  QE X (.ListComp elt [⟨tg,iter,ifs,0⟩] scope pos) (kP X.K (i9 cap gt ft fe fi)):=⟨bA (vA hc B (DA hi.o) ((λC aC aq ex=>(hg C aC aq ex).o)) ((λC aC aq ex=>(ht C aC aq ex).o)) ((λC aC aq ex=>(he C aC aq ex).o)) hs) (Gg hT)⟩
variable {fs:ay->Option (List Dat)} in
theorem qo(ho:QF X o f)(ha:g5 X [e] fs)(dS:attributeBase o "count" X.env (eval o X.env)=eval o X.env:=by rfl)(gV:((backTo p3 (starEach [e] X.env)).all (λx=>!x.1)&&(backToKw p3 (keywordEach [] X.env)).all (λx=>x.1.isSome)&&decide (([e]:List Expr).length+([]:List Keyword).length+(if([]:List Keyword).isEmpty then 0 else 1)<30))=true:=by rfl)(dR:(p2.endLine==p3.line)=true:=by rfl)(kc:starEach [e] X.env=(false,eval e X.env)::starEach [] X.env:=by rfl)(ez:(backTo p3 (starEach [] X.env)).any (·.1)=false:=by rfl):
  QF X (.Call (.Attribute o "count" p2) [e] [] p3) (fP oI f fs):=⟨bA (nQ plainAttrs_list PySem.F.slot_list_count PySem.F.type_list_count Hb ho.o ha.o dS gV dR kc ez) λσ H Q aT=>by
  obtain⟨Av,ρ,d,hA,hE,hf,q⟩:=aT;obtain⟨dx,e1,hf⟩:=bind_some hf;obtain⟨ds,e2,hf⟩:=bind_some hf;unfold oI at hf;split at hf
  ·split at hf
   ·rename_i hz;cases hf;refine⟨Av,ρ,_,hA,hE,e1,λx H1 s1 r1=>⟨?_,Av,ρ,_,hA.same s1,hE.same s1,e2,λxs H2 s2 r2=>?_⟩⟩
    ·obtain⟨a,ys,rfl,hq,rs⟩:=r1.eZ;exact .inl ⟨rfl,ys,hq.sq⟩
    ·obtain⟨v,rfl,rv⟩:=r2.cJ;have MF:=r1.same s2;obtain⟨a,ys,rfl,hq,rs⟩:=MF.eZ;exact⟨a,ys,v,rfl,rfl,hq.sq,rv.flat hz.1,rs.flat hz.2,by rw[aF.EZ rv hz.1 rs hz.2];exact q _ H2 (s1.trans s2) (.int _)⟩
   ·cases hf
  ·cases hf⟩
variable {fs:ay->Option (List Dat)} in
theorem Du(ho:QF X o f)(ha:g5 X [e] fs)(dS:attributeBase o "index" X.env (eval o X.env)=eval o X.env:=by rfl)(gV:((backTo p3 (starEach [e] X.env)).all (λx=>!x.1)&&(backToKw p3 (keywordEach [] X.env)).all (λx=>x.1.isSome)&&decide (([e]:List Expr).length+([]:List Keyword).length+(if([]:List Keyword).isEmpty then 0 else 1)<30))=true:=by rfl)(dR:(p2.endLine==p3.line)=true:=by rfl)(kc:starEach [e] X.env=(false,eval e X.env)::starEach [] X.env:=by rfl)(ez:(backTo p3 (starEach [] X.env)).any (·.1)=false:=by rfl):
  QF X (.Call (.Attribute o "index" p2) [e] [] p3) (fP ux f fs):=⟨bA (nQ plainAttrs_list PySem.F.slot_list_index PySem.F.type_list_index H9 ho.o ha.o dS gV dR kc ez) λσ H Q aT=>by
  obtain⟨Av,ρ,d,hA,hE,hf,q⟩:=aT;obtain⟨dx,e1,hf⟩:=bind_some hf;obtain⟨ds,e2,hf⟩:=bind_some hf;unfold ux at hf;split at hf
  ·split at hf
   ·rename_i hz;obtain⟨j,ej,hf⟩:=bT hf;subst hf;rw[List.findIdx?_eq_some_iff_getElem]at ej;obtain⟨jl,j1,j2⟩:=ej;refine⟨Av,ρ,_,hA,hE,e1,λx H1 s1 r1=>⟨?_,Av,ρ,_,hA.same s1,hE.same s1,e2,λxs H2 s2 r2=>?_⟩⟩
    ·obtain⟨a,ys,rfl,hq,rs⟩:=r1.eZ;exact .inl ⟨rfl,ys,hq.sq⟩
    ·obtain⟨v,rfl,rv⟩:=r2.cJ;have MF:=r1.same s2;obtain⟨a,ys,rfl,hq,rs⟩:=MF.eZ;have hl:=rs.length;obtain⟨d',k1,k2⟩:=aF.Hr rv hz.1 rs hz.2 j ys[j] (getElem?_eq_getElem (by omega));refine⟨a,ys,v,j,ys[j]'(by omega),rfl,rfl,hq.sq,rv.flat hz.1,rs.flat hz.2,getElem?_eq_getElem (by omega),?_,λm w hm hw=>?_,q _ H2 (s1.trans s2) (.int _)⟩
     ·rw[k2];rw[getElem?_eq_getElem jl]at k1;cases k1;exact j1
     ·obtain⟨d',k1,k2⟩:=aF.Hr rv hz.1 rs hz.2 m w hw;rw[k2];have ml:=(List.getElem?_eq_some_iff.mp k1);obtain⟨ml,em⟩:=ml;have:=j2 m hm;rw[em]at this;simpa using this
   ·cases hf
  ·cases hf⟩
theorem yC{k:Nat}{F:List Dat->Option (List Dat)}{fs:ay->Option (List Dat)}(D:sD X.prog X.w X.K X.mg X.base k x ps n F)(hr:cj k X.A)(pa:g5 X (e::es) fs)(hg:Gl X x:=by rfl)(fO:(x==("__debug__" : Str))=false:=by decide)(he:starEach (e::es) X.env=(false,eval e X.env)::starEach es X.env:=by rfl)(bW:(backTo pos (starEach es X.env)).any (·.1)=false:=by rfl):
  QE X (.Call (.Name x p) (e::es) [] pos) (kP X.K (vK n F fs)):=⟨by
 obtain⟨f,fd,h1,h2,h3,h4⟩:=D.ex;refine bA (mO h1 hr hg h2 h3 h4 .nil rH pa.o fO he bW) λσ H Q ⟨Av,ρ,out,hA,hE,hf,q⟩=>?_;obtain⟨ds,e1,hf⟩:=bind_some hf;split at hf
 ·rename_i hl;exact⟨Av,ρ,ds,hA,hE,e1,λxs H1 s1 r1=>⟨Av,ds,out,hA.same s1,by rw[append_nil];exact r1,hl,hf,λH2 p xs s2 hp r2=>q H2 p xs (s1.trans s2) hp r2⟩⟩
 ·cases hf⟩
theorem Gz(h:QF X iter f):
  FV X tg iter (NI f):=⟨vy (qp h.o) λσ H R aT=>by
 obtain⟨Av,ρ,ds,hA,hE,hf,q⟩:=aT;obtain⟨d,e1,hf⟩:=bind_some hf;refine⟨Av,ρ,d,hA,hE,e1,λx H1 s1 r=>?_⟩;cases d with
 |list jH=>
  cases hf;obtain⟨a,xs,rfl,hq,rs⟩:=r.eZ;exact⟨a,rfl,.inl ⟨⟨xs,hq.sq⟩,q _ [_] [_] H1 s1 (.cons r .nil) lK.s⟩⟩
 |tuple jH=>
  cases hf;obtain⟨a,xs,rfl,hq,rs⟩:=r.gI;exact⟨a,rfl,.inr ⟨⟨xs,hq.sq⟩,q _ [_] [_] H1 s1 (.cons r .nil) nq.s⟩⟩
 |_=>cases hf⟩
variable {fs:ay->Option (List Dat)} in
theorem lr(hm:X.mg "range"=none)(ha:g5 X [a] fs)(O3:Gl X "range":=by rfl)(gw:starEach [a] X.env=[(false,eval a X.env)]:=by rfl):
  FV X tg (.Call (.Name "range" p) [a] [] pos') (zk oX fs):=⟨vy (wx O3 hm ha.o gw) λσ H R aT=>by
 obtain⟨Av,ρ,ds,hA,hE,hf,q⟩:=aT;obtain⟨as,e1,e2⟩:=bind_some hf;refine⟨Av,ρ,as,hA,hE,e1,λvs H1 s1 r=>?_⟩;unfold oX at e2;split at e2
 ·rename_i j;split at e2
  ·rename_i hj;cases e2;obtain⟨v,rfl,rv⟩:=r.cJ;rw[rv.fH];exact⟨j,rfl,hj.1,hj.2,q _ [.bU] [.none] H1 s1 (.cons .bU .nil) ue.s⟩
  ·cases e2
 ·cases e2⟩
theorem ku{cap:List (Option Nat)}(hc:X.calm=true)(B:pU X scope cl N' cap)(hi:FV X tg iter fi)(hg:∀C aC aq ex,QG (kX X scope cl N' C aC aq ex) tg (iN X.K gt))(ht:∀C aC aq ex,Aa (kX X scope cl N' C aC aq ex) ifs (jT X.K ft))(he:∀C aC aq ex,QF (kX X scope cl N' C aC aq ex) elt fe)(hT:mh gt cap)(hs:∀x,foldedSetIterable iter X.env x=pure x:=by intro _;rfl):
  QE X (.ListComp elt [⟨tg,iter,ifs,0⟩] scope pos) (kP X.K (jb cap gt ft fe fi)):=⟨bA (vA hc B hi.o ((λC aC aq ex=>(hg C aC aq ex).o)) ((λC aC aq ex=>(ht C aC aq ex).o)) ((λC aC aq ex=>(he C aC aq ex).o)) hs) (AD hT)⟩
theorem ua(i:Nat){sN:Pos}{cap:List (Option Nat)}(hN:X.N.Nodup)(hc:X.calm=true)(B:pU X scope cl N' cap)(hi:FV X tg iter fi)(hg:∀C aC aq ex,QG (kX X scope cl N' C aC aq ex) tg (iN X.K gt))(ht:∀C aC aq ex,Aa (kX X scope cl N' C aC aq ex) ifs (jT X.K ft))(he:∀C aC aq ex,QF (kX X scope cl N' C aC aq ex) elt fe)(hT:mh gt cap)(Ek:X.N[i]?=some x:=by rfl)(hx:Loc X.env.scope x:=by first|exact .inl rfl|exact .inr rfl)(wK:swapsWith (.ListComp elt [⟨tg,iter,ifs,0⟩] scope pos) (some (.Name x pos')) sN.line X.env=pure true:=by rfl)(oD:X.fn x=true\/X.env.scope.names.lookup x=some .local:=by first|exact .inl rfl|exact .inr rfl)(hs:∀x,foldedSetIterable iter X.env x=pure x:=by intro _;rfl):
  jc X (.Assign [.Name x pos'] (.ListComp elt [⟨tg,iter,ifs,0⟩] scope pos) sN) (tX i (jb cap gt ft fe fi)):=⟨cT (Ku hc B hi.o ((λC aC aq ex=>(hg C aC aq ex).o)) ((λC aC aq ex=>(ht C aC aq ex).o)) ((λC aC aq ex=>(he C aC aq ex).o)) hN Ek hx wK oD hs) λD σ H aT=>by
 obtain⟨aq,Av,pn,aQ,Γ,fl,⟨ad,G⟩,hf,q⟩:=aT;obtain⟨ds,e1,hf⟩:=bT hf;subst hf;exact AD hT σ H _ ⟨cI Av Γ ad,dD Γ,ds,G.uS,G.qH,e1,λH1 p xs s hp r=>q _ _ ⟨ad,((G.grow s).grow (cb hp _)).set i (.pw (G.grow s).uS hp r)⟩⟩⟩
variable {F:List Dat->Option Dat}
theorem MJ{K:Fg}{fa:Addr}{k:Nat}{g:aD->Option Fl}(U:mw K x qual st fa fd)(S:eh N ps (aP st))(hn:ps.length=n)(hbody:∀(bJ:Value) (A:Around) (outer:List Env) (s:Shared) (H:Hp) (E:XK),cj k (A.deeper (envOfC qual (aP st) s.heap.objs.size fa bJ))->jP (g9 j0 P w K mg base N qual (aP st) fa bJ A outer s H E).lL (d4 st) g)(hF:∀ds d,ds.length=n->F ds=some d->gq N g ds=some d):gg P w K mg base j0 (k+1) fa fd ps (AG K n F):=by
 have bW:ps.length<=N.length:=by have:=congrArg List.length S.pre;rw[length_take]at this;omega
 refine U.ok S (λvs H Q E h=>?_) (λbJ A outer s H vs Q E hr h=>?_)
 ·obtain⟨Av,ds,d,_,r,hl,_⟩:=h;rw[r.length,hl,hn]
 ·obtain⟨Av,ds,d,hA,r,hl,hd,q⟩:=h;have fE:=hF ds d hl hd;unfold gq at fE;refine⟨_,(hbody bJ A outer s H E hr).o,?_⟩;cases hg:g (bY N ds)with
  |none=>rw[hg]at fE;cases fE
  |some fl=>
   refine⟨H,Av,none,[],bY N ds,fl,jM hA r (by omega),hg,?_⟩;rw[hg]at fE;cases fl with
   |nx Γ=>cases fE;exact λbD H' ⟨ad,G⟩=>q _ H' G.same .bU
   |rt d'=>cases fE;exact λv H' s r=>q v H' s r
   |bk Γ=>cases fE
   |ct Γ=>cases fE
   |rm d' Γ=>cases fE
open PySem PySem.Spec PyProof.Rows L2
open PySem.W (Dat kqdOk)
noncomputable def rW:Dat->Option Int->Option Int->Option Dat
 | .list ds,lo,hi=>some (.list (cutD ds lo hi))
 | .tuple ds,lo,hi=>if ¬(HT.cG ds.length 0 lo=0/\HT.cG ds.length ds.length hi=ds.length)then some (.tuple (cutD ds lo hi))else none
 |_,_,_=>none
noncomputable def o9 (f:ay->Option Dat) (fl fh:ay->Option (Option Int)):ay->Option Dat:=λρ=>(f ρ).bind λd=>(fl ρ).bind λl=>(fh ρ).bind λh=>rW d l h
theorem DF(h:PF X e f)(hl:SW X lo fl)(hh:SW X hi fh):PF X (.Subscript e (.Slice lo hi none p2) pos) (o9 f fl fh):=bA (yN (Kb.or Ml) h hl hh) λσ H Q aT=>by
 obtain⟨Av,ρ,d,hA,hE,hf,q⟩:=aT;obtain⟨dx,e1,hf⟩:=bind_some hf;obtain⟨l,e2,hf⟩:=bind_some hf;obtain⟨u,e3,hf⟩:=bind_some hf;refine⟨Av,ρ,_,hA,hE,e1,λx H1 s1 r1=>⟨Av,ρ,l,hA.same s1,hE.same s1,e2,λH2 s2=>⟨Av,ρ,u,hA.same (s1.trans s2),hE.same (s1.trans s2),e3,λH3 s3=>?_⟩⟩⟩;have sa:=s1.trans (s2.trans s3);unfold rW at hf;split at hf
 ·cases hf;obtain⟨a,xs,rfl,hq,rs⟩:=(r1.same (s2.trans s3)).eZ;refine .inl ⟨a,xs,rfl,hq.sq,λp hp=>q _ _ (sa.trans (cb hp _)) (.pw (hA.same sa) hp ?_)⟩;unfold qJ cutD;rw[rs.length];exact(rs.drop _).take _
 ·split at hf
  ·rename_i hw;cases hf;obtain⟨a,xs,rfl,hq,rs⟩:=(r1.same (s2.trans s3)).gI;refine .inr ⟨a,xs,rfl,hq.sq,by rw[rs.length];exact hw,λp hp=>q _ _ (sa.trans (cb hp _)) (.C4 (hA.same sa) hp ?_)⟩;unfold qJ cutD;rw[rs.length];exact(rs.drop _).take _
  ·cases hf
 ·cases hf
theorem iC(h:QF X e f)(hl:BK X lo fl)(hh:BK X hi fh):QF X (.Subscript e (.Slice lo hi none p2) pos) (o9 f fl fh):=⟨DF h.o hl.o hh.o⟩
noncomputable def Iy (K:Fg):R2:=λx y H Q=>∃l b xs zs,x=.ref l/\y=.ref b/\jI K H l xs/\jI K H b zs/\xs.length+zs.length<=sizeLine/\(xs=[]->Q (.ref b) H)/\(xs≠[]->zs=[]->Q (.ref l) H)/\(xs≠[]->zs≠[]->∀p,H p=none->Q (.ref p) (upd H p (.tup (xs++zs))))
theorem B1:dF X (binaryOp .Add) (Iy X.K):=by
 intro pins s σ H x y v u Q I rx ry h;obtain⟨l,b,xs,zs,rfl,rfl,hH,hB,hz,q0,q1,q2⟩:=h;cases rx;cases ry;obtain⟨aA,r,p1,_⟩:=I.tuple hH;obtain⟨o8,r2,p2,_⟩:=I.tuple hB;obtain⟨⟨cls,dd,data,sl⟩,ho,hc,n,hd⟩:=p1;obtain⟨⟨V3,wX,data2,qd⟩,uz,Ew,n2,hd2⟩:=p2;simp only at hc hd Ew hd2;subst hc hd Ew hd2;have h1:=r.length;have h2:=r2.length;have e:aA.toArray++o8.toArray=(aA++o8).toArray:=by simp
 have nf:=PySem.noFill_tuple_add;have sa:=PySem.seq_tuple_add;by_cases hv:aA=[]
 ·have hx:xs=[]:=r.rK.mp hv;exact concat_meets ⟨_,ho,rfl⟩ ⟨_,uz,rfl⟩ nf sa F.slot_tuple_add F.entry_tuple_add (F.args_tuple_add_2 _ _) (tuple_addW0 l b aA.toArray o8.toArray n n2 dd wX sl qd (by simp[hv])) ⟨ho,uz,⟨.ref b,H,I,rfl,q0 hx⟩⟩
 ·have hx:xs≠[]:=λz=>hv (r.rK.mpr z);by_cases hw:o8=[]
  ·have hy:zs=[]:=r2.rK.mp hw;exact concat_meets ⟨_,ho,rfl⟩ ⟨_,uz,rfl⟩ nf sa F.slot_tuple_add F.entry_tuple_add (F.args_tuple_add_2 _ _) (tuple_addW1 l b aA.toArray o8.toArray n n2 dd wX sl qd (by simpa using hv) (by simp[hw])) ⟨ho,uz,⟨.ref l,H,I,rfl,q1 hx hy⟩⟩
  ·have hy:zs≠[]:=λz=>hw (r2.rK.mpr z);refine concat_meets ⟨_,ho,rfl⟩ ⟨_,uz,rfl⟩ nf sa F.slot_tuple_add F.entry_tuple_add (F.args_tuple_add_2 _ _) (tuple_addW2 l b aA.toArray o8.toArray n n2 dd wX sl qd (by simpa using hv) (by simpa using hw) (by rw[size_toArray,size_toArray];omega)) ⟨ho,uz,?_⟩;rw[e];refine⟨.ref s.heap.objs.size,upd H s.heap.objs.size (.tup (xs++zs)),I.laid (t':=s.toks) (λb u e=>get?_push_of_some _ e) (le_refl _) ?_,rfl,q2 hx hy _ I.fresh⟩;exact⟨by rw[length_append];exact hz,_,r.append r2,⟨_,get?_push_size _ rfl,rfl,_,rfl⟩⟩
noncomputable def jO:Dat->Dat->Option Dat
 | .list xs,.list ys=>if xs.length+ys.length<=sizeLine then some (.list (xs++ys))else none
 | .tuple xs,.tuple ys=>if xs.length+ys.length<=sizeLine then some (.tuple (xs++ys))else none
 |x,y=>mf x y
theorem yV:kJ X.K (λx y H Q=>(IA X.K x y H Q\/Iy X.K x y H Q)\/((∃i j,x=.int i/\y=.int j/\Q (.int (i+j)) H)\/∃i j,x=.str i/\y=.str j/\i.length+j.length<=sizeLine/\Q (.str (i++j)) H)) jO:=by
 intro H Av x y dx dy d Q hA rx ry h q;unfold jO at h;split at h
 ·split at h
  ·rename_i hz;cases h;obtain⟨l,xs,rfl,hq,rs⟩:=rx.eZ;obtain⟨m,ys,rfl,qE,yt⟩:=ry.eZ;exact .inl (.inl ⟨l,m,xs,ys,rfl,rfl,hq.sq,qE.sq,by rw[rs.length,yt.length];exact hz,λp hp=>q _ _ (cb hp _) (.pw hA hp (rs.append yt))⟩)
  ·cases h
 ·split at h
  ·rename_i hz;cases h;obtain⟨l,xs,rfl,hq,rs⟩:=rx.gI;obtain⟨m,ys,rfl,qE,yt⟩:=ry.gI;refine .inl (.inr ⟨l,m,xs,ys,rfl,rfl,hq.sq,qE.sq,by rw[rs.length,yt.length];exact hz,λe=>?_,λ_ e=>?_,λ_ _ p hp=>q _ _ (cb hp _) (.C4 hA hp (rs.append yt))⟩)
   ·subst e;cases rs;exact q _ H (aO.refl H) (.tup qE yt)
   ·subst e;cases yt;rw[append_nil]at q;exact q _ H (aO.refl H) (.tup hq rs)
  ·cases h
 ·unfold mf at h;split at h
  ·cases h;exact .inr (.inl ⟨_,_,rx.fH,ry.fH,q _ H (aO.refl H) (.int _)⟩)
  ·split at h
   ·rename_i hz;cases h;exact .inr (.inr ⟨_,_,rx.cy,ry.cy,hz,q _ H (aO.refl H) (.str _)⟩)
   ·cases h
  ·cases h
theorem aM(pa:QF X a fa)(pb:QF X b fb):QF X (.BinOp a .Add b pos) (f2 jO fa fb):=⟨kA ((l8.or B1).or (yU.or pq)) yV pa.o pb.o⟩
open PySem PySem.Spec PyProof.Rows L2
open PySem.W (Dat kqdOk)
noncomputable def k9:Nat->Dat->Bool
 |0,_=>false
 |n+1,d=>match d with
  | .list _=>false
  | .tuple ds=>ds.all (k9 n)
  | .none=>true
  | .bool _=>true
  | .int _=>true
  | .str _=>true
  |_=>false
theorem aS.apart{K:Fg}{aq H H':Hp}{Av:eX}{pn:Option Addr}{aQ:Hid}{σ:L2.St}{Γ:aD}{ad:Nat->Addr}(G:GA K aq Av pn aQ H σ Γ ad)(s:aO H H'):∀(n:Nat) {v:V} {d:Dat},k9 n d=true->aS K H' Av v d->aS K H' (cI Av Γ ad) v d
 |0,v,d,h,_=>by cases h
 |n+1,v,d,h,r=>by
  cases r with
  |bU=>exact .bU
  |bl b=>exact .bl b
  |int i=>exact .int i
  |str x=>exact .str x
  | @tup a xs ds hq rs=>
   have nF:ds.all (k9 n)=true:=h;have Iq:aF K H' (cI Av Γ ad) xs ds:=by
    clear hq h;induction xs generalizing ds with
    |nil=>cases rs;exact .nil
    |cons x xs ih=>
     cases rs with
     |cons r1 r2=>
      rw[all_cons,and_eq_true]at nF;exact .cons (aS.apart G s n nF.1 r1) (ih r2 nF.2)
   refine .tup ?_ Iq;rcases hq with⟨h1,h2⟩|h1
   ·refine .inl ⟨h1,?_⟩;rintro(z|⟨i,sl,ei,mi,z⟩)
    ·exact h2 z
    ·cases sl with
     |ag d=>cases mi
     |own es=>
      obtain⟨ys,_,hl,_⟩:=G.own i es ei;have fV:=s _ _ hl;rw[z]at fV;rcases h1 with h1|⟨o,h1⟩
      ·rw[h1]at fV;cases fV
      ·rw[h1]at fV;cases fV
     |obj O es=>
      obtain⟨ys,_,hl,_⟩:=G.obj i O es ei;have fV:=s _ _ hl;rw[z]at fV;rcases h1 with h1|⟨o,h1⟩
      ·rw[h1]at fV;cases fV
      ·rw[h1]at fV;cases fV
     |lV a' Rg es=>
      obtain⟨f',_,hl,_⟩:=G.lV i a' Rg es ei;have fV:=s _ _ hl;rw[<- f',z]at fV;rcases h1 with h1|⟨o,h1⟩
      ·rw[h1]at fV;cases fV
      ·rw[h1]at fV;cases fV
     |nE pa O' es=>
      obtain⟨Rg,_,_,hl,_,_,nt⟩:=G.nE i pa O' es ei;have fV:=s _ _ hl;rw[z]at fV;rcases h1 with h1|⟨o,h1⟩
      ·rw[h1]at fV;injection fV with fV;rw[<- fV]at nt;cases nt
      ·rw[h1]at fV;injection fV with fV;rw[<- fV]at nt;cases nt
   ·exact .inr h1
  |lst _ _=>cases h
noncomputable def xA (i:Nat) (f:ay->Option Dat):aD->Option Fl:=λΓ=>(f (bo Γ)).bind λd=>if k9 9 d=true then some (.nx (Γ.set i (some (.ag d))))else none
theorem GH(i:Nat)(hN:X.N.Nodup)(h:PF X e f)(hi:X.N[i]?=some x:=by rfl)(hx:Loc X.env.scope x:=by first|exact .inl rfl|exact .inr rfl)(hs:swapsWith e (some (.Name x pos')) pos.line X.env=pure false:=by rfl)(hf:X.fn x=true\/X.env.scope.names.lookup x=some .local:=by first|exact .inl rfl|exact .inr rfl):
  PB X (.Assign [.Name x pos'] e pos) (xA i f):=cT (hZ hN hi hx h hs hf) λD σ H aT=>by
 obtain⟨aq,Av,pn,aQ,Γ,fl,⟨ad,G⟩,hf,q⟩:=aT;obtain⟨d,e1,hf⟩:=bind_some hf;split at hf
 ·rename_i hn;cases hf;exact⟨Av,bo Γ,d,G.fY.same G.same,G.gE,e1,λv H' s r=>q _ _ ⟨ad,(G.grow s).set i (aS.apart G s 9 hn r)⟩⟩
 ·cases hf
theorem qg(i:Nat)(hN:X.N.Nodup)(h:QF X e f)(hi:X.N[i]?=some x:=by rfl)(hx:Loc X.env.scope x:=by first|exact .inl rfl|exact .inr rfl)(hs:swapsWith e (some (.Name x pos')) pos.line X.env=pure false:=by rfl)(hf:X.fn x=true\/X.env.scope.names.lookup x=some .local:=by first|exact .inl rfl|exact .inr rfl):
  jc X (.Assign [.Name x pos'] e pos) (xA i f):=⟨GH i hN h.o hi hx hs hf⟩
open PySem PySem.Spec PyProof.Rows L2
open PySem.W (Dat kqdOk kqdP kqdPs kqd_lay)
noncomputable abbrev RK:=Str×List Int
noncomputable def o5 (k:RK):Dat:=.tuple [.str k.1,.tuple (k.2.map .int)]
open PySem PySem.Spec PyProof.Rows L2
open PySem.W (Dat kqdOk)
structure FnAt (K:Fg) (mg:Str->Option Value) (x:Str) (st:Stmt) (ps:List Str):Prop where
 ex:∃f fd,mw K x x st f fd/\mg x=some (.ref f)/\Binds K fd ps []
variable {K:Fg} {h:Heap} {f:Addr} {oc pm ct:Value} {od an:Option Addr}
theorem UX{nR:Array (Option Value)}{kV doc bJ:Value}(X:K.In h)(G:h.Ns mainGlobals mg)(a:nsIn K mainGlobals x=some (some (.ref f)))(l:K.lookup f=some ⟨oc,od,.func (fnOf x x (kf st) (d4 st) (aP st) .none kV doc pm an bJ ct),nR⟩)(c:codeIn K bJ x=true)(k:keepIn K (.ref f)=true)(b:∀(kV doc pm:Value) (an:Option Addr) (bJ ct:Value) (us:List Value),us.length=ps.length->bindArgs (fnOf x x (kf st) (d4 st) (aP st) .none kV doc pm an bJ ct) ⟨us,[]⟩=pure (ps.zip us)):FnAt K mg x st ps:=
 ⟨⟨_,_,zG l c k,mg_of X G a,(zG l c k).binds b⟩⟩
variable {k:Nat} in
theorem ek(N:List Str)(U:FnAt K mg x st ps){g:aD->Option Fl}(hbody:N.Nodup->∀(fa:Addr) (bJ:Value) (A:Around) (outer:List Env) (s:Shared) (H:Hp) (E:XK),cj k (A.deeper (envOfC x (aP st) s.heap.objs.size fa bJ))->jP (g9 j0 P w K mg base N x (aP st) fa bJ A outer s H E).lL (d4 st) g)(S:eh N ps (aP st):=by exact⟨rfl,rfl,rfl,by decide +kernel,rfl,by decide +kernel,by decide +kernel⟩)(hn:ps.length=n:=by rfl):Dn P w K mg base (k+1) x ps n (gq N g):=by
 obtain⟨f,fd,U,hm,hB⟩:=U.ex;exact MK U hm hB S hn (hbody S.nd f) λ_ _ _ h=>h
structure TC (K:Fg) (mg:Str->Option Value) (x:Str) (ds:List Dat) (a:Addr):Prop where
 mg:mg x=some (.ref a)
 tup:ModT K a ds
variable {sl:Array (Option Value)}
theorem Ij{K:Fg}{a:Addr}{o:Option Addr}{i j:Int}{t u:Tok}(X:K.In h)(G:h.Ns mainGlobals mg)(e:nsIn K mainGlobals x=some (some (.ref a)))(l:K.lookup a=some ⟨.type "tuple",o,.seq #[.int i t,.int j u] n,sl⟩):∃a,TC K mg x [.int i,.int j] a:=
 ⟨a,mg_of X G e,⟨[.int i,.int j],_,_,_,l,rfl,rfl,le_of_lt (bC (by show 2<=1000;decide)),.cons ⟨_,rfl⟩ (.cons ⟨_,rfl⟩ .nil),λH Av=>aF.ints [i,j]⟩⟩
open PySem PySem.Spec PyProof.Rows L2
open PySem.W (Dat kqdOk)
noncomputable def xC (y z:Str):Dat->Option Dat
 | .str x=>if x.length+(x.length+1)*z.length<=16777216 then some (.str (Txt.replace x y z))else none
 |_=>none
open PySem PySem.Spec PyProof.Rows L2
open PySem.W (Dat kqdOk)
noncomputable def qD:Dat->Dat->Option Dat
 | .str z,.int i=>if 0<=i/\i<1000 then(z.cps[i.toNat]?).map λc=>.str ⟨#[c]⟩else none
 |_,_=>none
theorem MS(ha:PF X a fa)(hb:PF X b fb)(hs:tH b:=by exact λ_ _=>rfl):PF X (.Subscript a b pos) (f2 qD fa fb):=bA (Ai ha hb hs) (qZ (by
 intro H Av x y dx dy d Q hA rx ry h q;unfold qD at h;split at h
 ·rename_i z i;split at h
  ·rename_i hi;obtain⟨c,hc,rfl⟩:=bT h;have hx:x=.str z:=by cases rx;rfl
   have lO:i.toNat<z.cps.size:=(Array.getElem?_eq_some_iff.mp hc).1;refine⟨z,i,c,hx,ry.fH,hi.1,by omega,?_,hc,q _ H (aO.refl H) (.str _)⟩;show i<(z.cps.size:Int);omega
  ·cases h
 ·cases h))
theorem iT(ha:QF X a fa)(hb:QF X b fb)(hs:tH b:=by exact λ_ _=>rfl):QF X (.Subscript a b pos) (f2 qD fa fb):=⟨MS ha.o hb.o hs⟩
end
end L3
namespace Fr
noncomputable section
theorem zF(a b:Int)(hb:0<b):gcd b (a.fmod b)=gcd a b:=by
 rw[Int.fmod_eq_emod_of_nonneg a (Int.le_of_lt hb)];apply Nat.dvd_antisymm
 ·apply Int.dvd_gcd
  ·have h1:=gcd_dvd_left b (a % b);have h2:=gcd_dvd_right b (a % b);have e:a=a % b+b*(a/b):=(Int.emod_add_mul_ediv a b).symm;have h3:(↑(b.gcd (a % b)):Int)∣a % b+b*(a/b):=Int.dvd_add h2 (Int.dvd_mul_of_dvd_left h1);rw[<- e]at h3;exact h3
  ·exact gcd_dvd_left b (a % b)
 ·apply Int.dvd_gcd
  ·exact gcd_dvd_right a b
  ·have h1:=gcd_dvd_left a b;have h2:=gcd_dvd_right a b;have e:a % b=a-b*(a/b):=by have:=Int.emod_add_mul_ediv a b;omega
   rw[e];exact Int.dvd_sub h1 (Int.dvd_mul_of_dvd_left h2)
noncomputable def dv (n d:Int):Int:=if d<0 then -(gcd n d:Int)else(gcd n d:Int)
noncomputable def num (n d:Int):Int:=n.fdiv (dv n d)
noncomputable def den (n d:Int):Int:=d.fdiv (dv n d)
variable {n d:Int}
theorem mS(h:d≠0):0<gcd n d:=Nat.pos_of_ne_zero λe=>h (by
 have:=gcd_dvd_right n d;rw[e]at this;exact Int.zero_dvd.mp this)
theorem xR(n d:Int):dv n d∣n:=by
 unfold dv;split
 ·exact Int.neg_dvd.mpr (gcd_dvd_left n d)
 ·exact gcd_dvd_left n d
theorem xQ(n d:Int):dv n d∣d:=by
 unfold dv;split
 ·exact Int.neg_dvd.mpr (gcd_dvd_right n d)
 ·exact gcd_dvd_right n d
theorem num_mul(n d:Int):num n d*dv n d=n:=by
 unfold num;rw[Int.fdiv_eq_ediv_of_dvd (xR n d)];exact Int.ediv_mul_cancel (xR n d)
theorem den_mul(n d:Int):den n d*dv n d=d:=by
 unfold den;rw[Int.fdiv_eq_ediv_of_dvd (xQ n d)];exact Int.ediv_mul_cancel (xQ n d)
theorem den_pos(h:d≠0):0<den n d:=by
 have e:=den_mul n d;have g:=mS (n:=n) h;by_cases hd:d<0
 ·have e2:dv n d=-(gcd n d:Int):=by unfold dv;exact if_pos hd
  have Cc:dv n d<0:=by omega
  rcases Int.lt_trichotomy (den n d) 0 with q|q|q
  ·have:=Int.mul_pos_of_neg_of_neg q Cc;omega
  ·rw[q]at e;simp at e;omega
  ·exact q
 ·have e2:dv n d=(gcd n d:Int):=by unfold dv;exact if_neg hd
  have UL:0<dv n d:=by omega
  rcases Int.lt_trichotomy (den n d) 0 with q|q|q
  ·have:=Int.mul_neg_of_neg_of_pos q UL;omega
  ·rw[q]at e;simp at e;omega
  ·exact q
theorem zK(n d:Int):(dv n d).natAbs=gcd n d:=by
 unfold dv;split<;>simp
theorem zS(h:d≠0):gcd (num n d) (den n d)=1:=by
 unfold num den;rw[Int.fdiv_eq_ediv_of_dvd (xR n d),Int.fdiv_eq_ediv_of_dvd (xQ n d),Int.gcd_ediv (xR n d) (xQ n d),zK];exact Nat.div_self (mS h)
theorem Cp(n d:Int):num n d*d=den n d*n:=by
 have e1:=num_mul n d;have e2:=den_mul n d;calc num n d*d=num n d*(den n d*dv n d):=by rw[e2]
  _=den n d*(num n d*dv n d):=by rw[Int.mul_left_comm]
  _=den n d*n:=by rw[e1]
theorem uniq{p q:Int}(hd:d≠0)(hq:0<q)(hc:gcd p q=1)(h:p*d=q*n):num n d=p/\den n d=q:=by
 have hx:=Cp n d;have hk:=zS (n:=n) hd;have hdp:=den_pos (n:=n) hd

 have key:p*den n d=q*num n d:=by
  have a1:(p*den n d)*d=(q*num n d)*d:=by
   calc (p*den n d)*d=(p*d)*den n d:=by rw[Int.mul_right_comm]
    _=(q*n)*den n d:=by rw[h]
    _=q*(den n d*n):=by rw[mul_assoc,mul_comm n]
    _=q*(num n d*d):=by rw[hx]
    _=(q*num n d)*d:=by rw[mul_assoc]
  exact Int.eq_of_mul_eq_mul_right hd a1
 have n1:q.natAbs∣(den n d).natAbs:=by
  have z:q.natAbs∣p.natAbs*(den n d).natAbs:=by
   rw[<- natAbs_mul,key,natAbs_mul];exact Nat.dvd_mul_right _ _
  have c:Nat.Coprime q.natAbs p.natAbs:=by
   show Nat.gcd q.natAbs p.natAbs=1;rw[Nat.gcd_comm];exact hc
  exact c.dvd_of_dvd_mul_left z
 have n2:(den n d).natAbs∣q.natAbs:=by
  have z:(den n d).natAbs∣q.natAbs*(num n d).natAbs:=by
   rw[<- natAbs_mul,<- key,natAbs_mul];exact Nat.dvd_mul_left _ _
  have c:Nat.Coprime (den n d).natAbs (num n d).natAbs:=by
   show Nat.gcd (den n d).natAbs (num n d).natAbs=1;rw[Nat.gcd_comm];exact hk
  exact c.dvd_of_dvd_mul_right z
 have e1:den n d=q:=by
  have:=Nat.dvd_antisymm n1 n2;omega
 refine⟨?_,e1⟩;rw[e1]at key;have:q*p=q*num n d:=by rw[mul_comm q p];exact key
 exact(Int.eq_of_mul_eq_mul_left (Int.ne_of_gt hq) this).symm
theorem Cv(h:d≠0):(num n d).natAbs<=n.natAbs:=by
 have e:=congrArg Int.natAbs (num_mul n d);rw[natAbs_mul]at e;have:1<=(dv n d).natAbs:=by rw[zK];exact mS h
 calc (num n d).natAbs=(num n d).natAbs*1:=(Nat.mul_one _).symm
  _<=(num n d).natAbs*(dv n d).natAbs:=mul_le_mul_left _ this
  _=n.natAbs:=e
theorem uU(h:d≠0):(den n d).natAbs<=d.natAbs:=by
 have e:=congrArg Int.natAbs (den_mul n d);rw[natAbs_mul]at e;have:1<=(dv n d).natAbs:=by rw[zK];exact mS h
 calc (den n d).natAbs=(den n d).natAbs*1:=(Nat.mul_one _).symm
  _<=(den n d).natAbs*(dv n d).natAbs:=mul_le_mul_left _ this
  _=d.natAbs:=e
end
end Fr
namespace Fr
noncomputable section
theorem congr{n d n' d':Int}(h:d≠0)(h':d'≠0)(e:n*d'=n'*d):num n d=num n' d'/\den n d=den n' d':=by
 have c:=Cp n' d';refine uniq h (den_pos h') (zS h') ?_

 have:(num n' d'*d)*d'=(den n' d'*n)*d':=by
  calc (num n' d'*d)*d'=(num n' d'*d')*d:=by grind
   _=(den n' d'*n')*d:=by rw[c]
   _=den n' d'*(n'*d):=by grind
   _=den n' d'*(n*d'):=by rw[e]
   _=(den n' d'*n)*d':=by grind
 exact Int.eq_of_mul_eq_mul_right h' this
end
end Fr
namespace Tx
noncomputable section
open PySem PySem.StrLaws PySem.Builtin.Str
noncomputable abbrev tl (x:Str):List Nat:=x.cps.toList
theorem aR(a b:Str):tl (a++b)=tl a++tl b:=by
 show(a++b).cps.toList=_;rw[Str.cps_append,Array.toList_append]
theorem d6{a b:Str}(h:tl a=tl b):a=b:=Str.ext' (Array.toList_inj.mp h)
noncomputable abbrev CN:Str:=⟨#[43,45]⟩
noncomputable abbrev zM:Str:=⟨#[45]⟩
structure Wd where
 neg:Bool
 word:Str
noncomputable abbrev cP:Str:=⟨#[43]⟩
noncomputable def term (w:Wd):Str:=if w.neg=true then zM++w.word else w.word
noncomputable def eF (text:Str) (w:Wd):Str:=if w.neg=true then text++zM++w.word else if text=⟨#[]⟩then w.word else text++cP++w.word
end
end Tx
namespace L3
noncomputable section
open PySem PySem.Spec PyProof.Rows L2
open PySem.W (Dat kqdOk)
variable {ad:Nat->Addr} {Av:eX} {Γ:aD} {K:Fg} {H aq:Hp} {aQ:Hid} {σ:L2.St} {pn:Option Addr} {ds:List Dat}
theorem GA.jt(G:GA K aq Av pn aQ H σ Γ ad){i:Nat}(hi:Γ[i]?=some (some (.own ds))):GA K aq Av pn aQ H σ (Γ.set i (some (.ag (.list ds)))) ad:=by
 obtain⟨xs,a1,a2,a3,a4⟩:=G.own i ds hi;have na:¬cI Av (Γ.set i (some (.ag (.list ds)))) ad (ad i):=by
  rintro(z|⟨j,s,e,m,r⟩)
  ·obtain⟨o,ho⟩:=G.fY _ z;rw[a4]at ho;cases ho
  ·rcases bO e with⟨_,q⟩|⟨ne,q⟩
   ·cases q;cases m
   ·exact ne (G.inj j i s (.own ds) q hi m rfl r)
 refine⟨G.same,G.fY,by rw[length_set];exact G.len,λj d' h=>?_,λj jH h=>?_,λj k s t h1 h2 m1 m2 e=>?_,λp hp=>(G.aQ p hp).weak cI.fk,λa jH e h=>?_,λj O jH h=>?_,λj a' zs jH h=>?_,λj pa O' jH h=>?_⟩
 ·rcases bO h with⟨e,q⟩|⟨e,q⟩
  ·subst e;cases q;exact⟨_,a1,.lst (.inl ⟨.inl a2,na⟩) (a3.weak cI.fk)⟩
  ·obtain⟨u,a,b⟩:=G.ag j d' q;exact⟨u,a,b.weak cI.fk⟩
 ·rcases bO h with⟨e,q⟩|⟨e,q⟩
  ·cases q
  ·obtain⟨xs,a,b,c,e'⟩:=G.own j jH q;exact⟨xs,a,b,c.weak cI.fk,e'⟩
 ·rcases bO h1 with⟨_,q⟩|⟨_,q1⟩
  ·cases q;cases m1
  rcases bO h2 with⟨_,q⟩|⟨_,q2⟩
  ·cases q;cases m2
  exact G.inj j k s t q1 q2 m1 m2 e
 ·rcases bO h with⟨_,q⟩|⟨_,q⟩
  ·cases q
  ·exact G.pin a jH e q
 ·rcases bO h with⟨_,q⟩|⟨_,q⟩
  ·cases q
  ·obtain⟨xs,a,b,c,e'⟩:=G.obj j O jH q;exact⟨xs,a,b,c.weak cI.fk,e'⟩
 ·rcases bO h with⟨_,q⟩|⟨_,q⟩
  ·cases q
  ·obtain⟨f,a,b,c,e'⟩:=G.lV j a' zs jH q;exact⟨f,a,b,c.weak cI.fk,e'⟩
 ·rcases bO h with⟨_,q⟩|⟨_,q⟩
  ·cases q
  ·obtain⟨xS,f,a,b,c,e'⟩:=G.nE j pa O' jH q;exact⟨xS,f,a,b,c.weak cI.fk,e'⟩
noncomputable def zH (i:Nat) (Γ:aD):aD:=match Γ[i]? with
 |some (some (.own ds))=>Γ.set i (some (.ag (.list ds)))
 |_=>Γ
theorem GA.zH(G:GA K aq Av pn aQ H σ Γ ad)(i:Nat):GA K aq Av pn aQ H σ (L3.zH i Γ) ad:=by
 unfold L3.zH;split
 ·rename_i ds hi;exact G.jt hi
 ·exact G
open PySem PySem.Spec PyProof.Rows L2
open PySem.W (Dat kqdOk)
structure W3 (X:Cx) (pins:List (Addr×Obj)) (σ:L2.St) (H:Hp) (s:Shared) (T J S:Addr) (oT oJ oS:Obj):Prop where
 inv:Inv X pins σ H s
 t:s.heap.get? T=some oT
 j:s.heap.get? J=some oJ
 s:s.heap.get? S=some oS
 ft:lq X pins H T
 fj:lq X pins H J
 fs:lq X pins H S
 nt:∀v,oT.data≠.cell v
 nj:∀v,oJ.data≠.cell v
 ns:∀v,oS.data≠.cell v
open PySem PySem.Spec PyProof.Rows L2
open PySem.W (Dat kqdOk)
variable {fb fa:ay->Option Dat}
noncomputable def xP (fa fb:ay->Option Dat):ay->Option (List Dat):=λρ=>(fa ρ).bind λx=>(fb ρ).bind λy=>match x,y with
 | .list xs,.list ys=>if xs.length+ys.length<=sizeLine then some (xs++ys)else none
 |_,_=>none
variable {X:Cx} {a b:Expr} {pos:Pos}
theorem GP(ha:PF X a fa)(hb:PF X b fb):PE X (.BinOp a .Add b pos) (kP X.K (xP fa fb)):=bA (rG l8 ha hb) λσ H Q aT=>by
 obtain⟨Av,ρ,out,hA,hE,hf,q⟩:=aT;obtain⟨x,e1,hf⟩:=bind_some hf;obtain⟨y,e2,hf⟩:=bind_some hf;split at hf
 ·rename_i xs ys;split at hf
  ·rename_i hz;cases hf;refine⟨Av,ρ,_,hA,hE,e1,λv H1 s1 r1=>⟨Av,ρ,_,hA.same s1,hE.same s1,e2,λu H2 s2 r2=>?_⟩⟩;obtain⟨p,vs,rfl,hq,rs⟩:=(r1.same s2).eZ;obtain⟨p',us,rfl,Wj,Iq⟩:=r2.eZ;exact⟨p,p',vs,us,rfl,rfl,hq.sq,Wj.sq,by rw[rs.length,Iq.length];exact hz,λp3 Wk=>q _ p3 _ (s1.trans s2) Wk (rs.append Iq)⟩
  ·cases hf
 ·cases hf
theorem Dp(ha:QF X a fa)(hb:QF X b fb):QE X (.BinOp a .Add b pos) (kP X.K (xP fa fb)):=⟨GP ha.o hb.o⟩
theorem aF.apart{K:Fg}{aq H H':Hp}{Av:eX}{pn:Option Addr}{aQ:Hid}{σ:L2.St}{Γ:aD}{ad:Nat->Addr}(G:GA K aq Av pn aQ H σ Γ ad)(s:aO H H')(n:Nat):∀{vs:List V} {ds:List Dat},ds.all (k9 n)=true->aF K H' Av vs ds->aF K H' (cI Av Γ ad) vs ds
 |_,_,_,.nil=>.nil
 |_,_,h,.cons r t=>by
  rw[all_cons,and_eq_true]at h;exact .cons (aS.apart G s n h.1 r) (aF.apart G s n h.2 t)
noncomputable def oR (i:Nat) (f:ay->Option (List Dat)):aD->Option Fl:=λΓ=>(f (bo Γ)).bind λds=>if ds.all (k9 9)=true then some (.nx (Γ.set i (some (.own ds))))else none
variable {e:Expr} {pos':Pos}
variable {fs:ay->Option (List Dat)} in
theorem GI(i:Nat){x:Str}(hN:X.N.Nodup)(h:PE X e (kP X.K fs))(wN:i≠0:=by decide)(hi:X.N[i]?=some x:=by rfl)(hx:Loc X.env.scope x:=by first|exact .inl rfl|exact .inr rfl)(hs:swapsWith e (some (.Name x pos')) pos.line X.env=pure false:=by rfl)(hf:X.fn x=true\/X.env.scope.names.lookup x=some .local:=by first|exact .inl rfl|exact .inr rfl):
  PB X (.Assign [.Name x pos'] e pos) (oR i fs):=cT (hZ hN hi hx h hs hf) λD σ H aT=>by
 obtain⟨aq,Av,pn,aQ,Γ,fl,⟨ad,G⟩,hf,q⟩:=aT;obtain⟨ds,e1,hf⟩:=bind_some hf;split at hf
 ·rename_i hn;cases hf;exact⟨Av,bo Γ,ds,G.fY.same G.same,G.gE,e1,λH1 p xs s hp r=>q _ _ ⟨_,(G.grow s).Dd i wN hp (aF.apart G s 9 hn r)⟩⟩
 ·cases hf
variable {fs:ay->Option (List Dat)} in
theorem qh(i:Nat){x:Str}(hN:X.N.Nodup)(h:QE X e (kP X.K fs))(wN:i≠0:=by decide)(hi:X.N[i]?=some x:=by rfl)(hx:Loc X.env.scope x:=by first|exact .inl rfl|exact .inr rfl)(hs:swapsWith e (some (.Name x pos')) pos.line X.env=pure false:=by rfl)(hf:X.fn x=true\/X.env.scope.names.lookup x=some .local:=by first|exact .inl rfl|exact .inr rfl):
  jc X (.Assign [.Name x pos'] e pos) (oR i fs):=⟨GI i hN h.o wN hi hx hs hf⟩
noncomputable def frzs (is:List Nat) (Γ:aD):aD:=is.foldl (λΓ i=>zH i Γ) Γ
theorem GA.frzs{K:Fg}{aq H:Hp}{Av:eX}{pn:Option Addr}{aQ:Hid}{σ:L2.St}{ad:Nat->Addr}:∀(is:List Nat) {Γ:aD},GA K aq Av pn aQ H σ Γ ad->GA K aq Av pn aQ H σ (L3.frzs is Γ) ad
 |[],_,G=>G
 |i::is,_,G=>GA.frzs is (G.zH i)
open PySem PySem.Spec PyProof.Rows L2
open PySem.W (Dat kqdOk kqdP kqdPs kqd_lay kqd_eqv)
mutual
theorem aS.kr{pins:List (Addr×Obj)}{σ:L2.St}{H:Hp}{s:Shared}{Av:eX}(I:Inv X pins σ H s):∀{v:V} {d:Dat},aS X.K H Av v d->∀u,RelV v u->∃as,Reads s.heap u (kqdP d) as
 |_,_,.bU,u,r=>by cases(show u=Value.none from r);rw[kqdP];exact⟨_,.none⟩
 |_,_,.bl b,u,r=>by cases(show u=Value.bool b from r);rw[kqdP];exact⟨_,.bool b⟩
 |_,_,.int i,u,r=>by obtain⟨t,q⟩:=(show ∃t,u=Value.int i t from r);subst q;rw[kqdP];exact⟨_,.int i t⟩
 |_,_,.str x,u,r=>by obtain⟨t,q⟩:=(show ∃t,u=Value.str x t from r);subst q;rw[kqdP];exact⟨_,.str x t⟩
 |_,_,.tup (a:=a) hq rs,u,r=>by
  cases(show u=Value.ref a from r);obtain⟨aA,rv,⟨o,h1,h2,m,h3⟩,_⟩:=I.tuple hq.sq;obtain⟨as,q⟩:=aF.kr I rs aA rv;rw[kqdP];exact⟨as,.tuple h1 h2 h3 (by simpa using q)⟩
 |_,_,.lst (a:=a) hq rs,u,r=>by
  cases(show u=Value.ref a from r);obtain⟨aA,rv,⟨o,m,h1,h2,_,h3⟩,_⟩:=I.list hq.sq;obtain⟨as,q⟩:=aF.kr I rs aA rv;rw[kqdP];exact⟨_,.list h1 h2 h3 (by simpa using q)⟩
theorem aF.kr {pins:List (Addr×Obj)} {σ:L2.St} {H:Hp} {s:Shared} {Av:eX} (I:Inv X pins σ H s):∀{vs:List V} {ds:List Dat},aF X.K H Av vs ds->∀us,Vals vs us->∃as,ReadsAll s.heap us (kqdPs ds) as
 |_,_,.nil,us,r=>by cases r;rw[kqdPs];exact⟨_,.nil⟩
 |_,_,.cons h t,us,r=>by
  cases r with
  |cons r1 r2=>
   obtain⟨as,q⟩:=aS.kr I h _ r1;obtain⟨bs,p⟩:=aF.kr I t _ r2;rw[kqdPs];exact⟨_,.cons q p⟩
end
noncomputable def uI (x y:Dat):Option Bool:=if SeqAt.shaped (kqdP x)=true/\SeqAt.shaped (kqdP y)=true then some (PyData.eqv (kqdP x) (kqdP y))else none
noncomputable def jN (x y:Dat):Option Dat:=(uI x y).map .bool
noncomputable def sX (x y:Dat):Option Dat:=(uI x y).map λk=>.bool (!k)
theorem Bv{x y:Dat}{k:Bool}(h:uI x y=some k):SeqAt.shaped (kqdP x)=true/\SeqAt.shaped (kqdP y)=true/\k=PyData.eqv (kqdP x) (kqdP y):=by
 unfold uI at h;split at h
 ·rename_i c;cases h;exact⟨c.1,c.2,rfl⟩
 ·cases h
theorem Lc{x y:Dat}(h1:kqdOk 9 x=true)(h2:kqdOk 9 y=true):uI x y=some (oa x y):=by
 unfold uI;rw[if_pos ⟨jW x h1,jW y h2⟩,vN x y h1 h2]
noncomputable def MB (K:Fg):R2:=λx y H Q=>∃Av d e k,aS K H Av x d/\aS K H Av y e/\uI d e=some k/\Q (.bl k) H
noncomputable def My (K:Fg):R2:=λx y H Q=>∃Av d e k,aS K H Av x d/\aS K H Av y e/\uI d e=some k/\Q (.bl (!k)) H
theorem DK(hu:X.A.units+64<cLine):dF X (compareOp .Eq) (MB X.K):=by
 intro pins s σ H x y v u Q I rx ry h;obtain⟨Av,d,e,k,r1,r2,hk,q⟩:=h;obtain⟨k1,k2,rfl⟩:=Bv hk;obtain⟨as,ra⟩:=r1.kr I v rx;obtain⟨bs,rb⟩:=r2.kr I u ry;exact eq_dataH ra rb k1 k2 hu ⟨.bl _,H,I,rfl,q⟩
theorem N5(hu:X.A.units+64<cLine):dF X (compareOp .NotEq) (My X.K):=by
 intro pins s σ H x y v u Q I rx ry h;obtain⟨Av,d,e,k,r1,r2,hk,q⟩:=h;obtain⟨k1,k2,rfl⟩:=Bv hk;obtain⟨as,ra⟩:=r1.kr I v rx;obtain⟨bs,rb⟩:=r2.kr I u ry;exact ne_dataH ra rb k1 k2 hu ⟨.bl _,H,I,rfl,q⟩
theorem B3{K:Fg}:kJ K (MB K) jN:=by
 intro H Av x y dx dy d Q hA rx ry h q;obtain⟨k,e1,rfl⟩:=bT h;exact⟨Av,dx,dy,k,rx,ry,e1,q _ H (aO.refl H) (.bl _)⟩
theorem KJ{K:Fg}:kJ K (My K) sX:=by
 intro H Av x y dx dy d Q hA rx ry h q;obtain⟨k,e1,rfl⟩:=bT h;exact⟨Av,dx,dy,k,rx,ry,e1,q _ H (aO.refl H) (.bl _)⟩
theorem vt{k:Nat}(hr:cj k X.A)(ha:QF X a fa)(hb:QF X b fb):QF X (.Compare a [.Eq] [b] pos) (f2 jN fa fb):=⟨n9 (DK hr.units) B3 ha.o hb.o (gN _)⟩
theorem GB{k:Nat}(hr:cj k X.A)(ha:QF X a fa)(hb:QF X b fb):gR X (.Compare a [.Eq] [b] pos) (aZ (f2 jN fa fb)):=⟨i5 (DK hr.units) B3 ha.o hb.o (gN _)⟩
theorem sV{k:Nat}(hr:cj k X.A)(ha:QF X a fa)(hb:QF X b fb):gR X (.Compare a [.NotEq] [b] pos) (aZ (f2 sX fa fb)):=⟨i5 (N5 hr.units) KJ ha.o hb.o (gN _)⟩
open PySem PySem.Spec PyProof.Rows L2
open PySem.W (Dat kqdOk)
variable {w:World} {E:Value->Shared->Prop} {A:Around} {prog:Program}
theorem Jx{it l:Addr}{aA:Array Value}(ne:l≠it):∀(n i:Nat) (s:Shared) (Q:List Value->Shared->Prop),s.heap.IsListIter it l i->s.heap.IsList l aA->i+n<=aA.size->(∀h',h'.IsListIter it l (i+n)->SameBut it s.heap h'->Q ((aA.toList.drop i).take n) {s with heap:=h'})->wpAny (model prog w) A (draw (.ref it) n) Q E s
 |0,i,s,Q,st,_,_,q=>by
  show wpAny _ _ (pure []) Q E s;refine wpAny_pure ?_;have:=q s.heap st (SameBut.refl ..);rwa[List.take_zero]at this
 |n+1,i,s,Q,st,hl,hn,q=>by
  have hi:i<aA.size:=by omega
  have hd:aA.toList.drop i=aA[i]::aA.toList.drop (i+1):=by rw[List.drop_eq_getElem_cons (by simpa using hi)];simp
  show wpAny _ _ (pyNext (.ref it) >>= _) Q E s;refine wpAny_bind (wpAny_pyNext_list_item st hl (x:=aA[i]) (by simp[hi]) λh1 yh s1=>?_);refine wpAny_bind (wpAny_holding (Jx ne n (i+1) _ _ yh (hl.extBut s1.extBut ne) (by omega) λh2 lF s2=>?_));refine wpAny_pure ?_;have:=q h2 (by rw[Nat.add_comm n 1,<- Nat.add_assoc];exact lF) (s1.trans s2);rwa[hd,List.take_succ_cons]at this
theorem U0{s:Shared}{l:Addr}{aA:Array Value}{ts:List (Bool×(Value->Sem Unit))}{Q:Unit->Shared->Prop}(hh:A.handled=none)(hl:s.heap.IsList l aA)(hn:ts.length=aA.size)(gw:ts.findIdx? (·.1)=none)(h:∀h',Heap.ExtBut s.heap.objs.size s.heap h'->wpAny (model prog w) A (assignInOrder (ts.map (·.2)) aA.toList) Q E {s with heap:=h'}):wpAny (model prog w) A (unpack (.ref l) ts) Q E s:=by
 have ne:l≠s.heap.objs.size:=by obtain⟨o,e,_⟩:=hl;exact ne_of_lt (lt_size e)
 unfold unpack;rw[hn,gw];refine wpAny_bind (wpAny_holding ?_);unfold unpackItems notIterableAtAll;refine wpAny_bind (wpAny_bind (wpAny_specialOf hl.typeIs slot_list_iter.lookup (wpAny_pure ?_)));simp only[false_eq_true,if_false];refine wpAny_bind (wpAny_holding (wpAny_pyIter_list hl ?_));refine wpAny_bind (wpAny_holding (Jx ne aA.size 0 _ _ ⟨_,get?_push_size _ rfl,rfl,rfl⟩ (hl.push _) (by omega) λh1 yh s1=>?_));have ea:(aA.toList.drop 0).take aA.size=aA.toList:=by rw[drop_zero,take_of_length_le (by simp)]
 rw[ea,if_neg (by simp)];refine wpAny_bind (wpAny_holding (wpAny_pyNext_list_end hh yh ((hl.push _).extBut s1.extBut ne) (by simp) λh2 e2=>?_));simp only[Option.isSome_none,false_eq_true,if_false];exact wpAny_pure (h h2 λb o hb e=>e2 b o hb (s1.extBut b o hb (get?_push_of_some _ e)))
noncomputable def UW (K:PySem.W.Frag) (n:Nat) (t:pS):TG:=λv σ H Q=>∃a xs,v=.ref a/\fF K H a xs/\xs.length=n/\t xs σ H Q
variable {es:List Expr} {n:Nat}
theorem MR{k:Nat}{t:pS}(hc:X.calm=true)(h:v7 X es t)(hn:(assignEach es X.env).length=n:=by rfl)(gw:(assignEach es X.env).findIdx? (·.1)=none:=by rfl):PG X (.Tuple es k pos) (UW X.K n t):=by
 intro pins s σ H v u Q I r hw;obtain⟨a,xs,e1,hq,hl,hw⟩:=hw;subst e1;cases r;obtain⟨aA,rv,p,hz⟩:=I.list hq;rw[assign_Tuple];refine wpAny_bind (wpAny_standAt (U0 (I.ok.hd hc) p.isList (by simp[hn,<- hl,rv.length]) gw λh' hx=>?_));have I1:Inv X pins σ H {s with heap:=h'}:=I.kept (t':=s.toks) λb o e=>hx b o (ne_of_lt (lt_size e)) e;exact h pins _ σ H xs _ Q I1 (by simpa using rv) hw
variable {tg:Expr}
theorem Qp{t t':TG}(h:PG X tg t)(h':PG X tg t'):PG X tg (λv σ H Q=>t v σ H Q\/t' v σ H Q):=λpins s σ H v u Q I r q=>q.elim (h pins s σ H v u Q I r) (h' pins s σ H v u Q I r)
noncomputable def Pl (n:Nat) (gs:List Dat->Option dH):Dat->Option dH:=λd=>match d with
 | .tuple ds=>if ds.length=n then gs ds else none
 | .list ds=>if ds.length=n then gs ds else none
 |_=>none
theorem MQ{kO:List Expr}{k:Nat}{sf:List Dat->Option dH}(hc:X.calm=true)(h:v7 X kO (vh X.K sf))(hn:(assignEach kO X.env).length=n:=by rfl)(gw:(assignEach kO X.env).findIdx? (·.1)=none:=by rfl):
  PG X (.Tuple kO k pos) (iN X.K (Pl n sf)):=vz (Qp (DB hc h hn gw) (MR hc h hn gw)) λv σ H Q aT=>by
 obtain⟨Av,d,as,r,e,q⟩:=aT;unfold Pl at e;split at e
 ·split at e
  ·rename_i ds hl;obtain⟨a,xs,rfl,hq,rs⟩:=r.gI;exact .inl ⟨a,xs,rfl,hq.sq,by rw[rs.length];exact hl,Av,ds,as,rs,e,q⟩
  ·cases e
 ·split at e
  ·rename_i ds hl;obtain⟨a,xs,rfl,hq,rs⟩:=r.eZ;exact .inr ⟨a,xs,rfl,hq.sq,by rw[rs.length];exact hl,Av,ds,as,rs,e,q⟩
  ·cases e
 ·cases e
theorem Kl{kO:List Expr}{k:Nat}{sf:List Dat->Option dH}(hc:X.calm=true)(h:FW X kO (vh X.K sf))(hn:(assignEach kO X.env).length=n:=by rfl)(gw:(assignEach kO X.env).findIdx? (·.1)=none:=by rfl):QG X (.Tuple kO k pos) (iN X.K (Pl n sf)):=⟨MQ hc h.o hn gw⟩
variable {st:Stmt}
theorem Gx(is:List Nat){g:aD->Option Fl}(h:jc X st g):jc X st (λΓ=>g (frzs is Γ)):=⟨cT h.o λD σ H ⟨aq,Av,pn,aQ,Γ,fl,⟨ad,G⟩,hf,q⟩=>⟨aq,Av,pn,aQ,frzs is Γ,fl,⟨ad,G.frzs is⟩,hf,q⟩⟩
open PySem PySem.Spec PyProof.Rows L2
open PySem.W (Dat kqdOk)
variable {gt:Dat->Option dH} {ft:ay->Option Bool} {fe fi:ay->Option Dat} {ρ:ay} {d:Dat} {out:List Dat}
theorem HN{cap:List (Option Nat)}(h:fi ρ=some d)(h2:j8 d=some ds)(hl:ds.length<sizeLine)(hc:cL gt ft fe (gf cap ρ) ds=some out):d7 cap gt ft fe fi ρ=some out:=by
 unfold d7;rw[h,Option.bind_some,h2,Option.bind_some,if_pos hl];exact hc
theorem L6{k:Nat}(h:k<n):sd n (k:Int)=some k:=by
 unfold sd;rw[if_pos (by omega),if_pos (by omega)];rfl
theorem fo{k:Nat}(h:ds[k]?=some d):bu (.list ds) (.int (k:Int))=some d:=by
 show iZ ds (k:Int)=_;unfold iZ;rw[L6 (j9 h),Option.bind_some];exact h
theorem nN{m:Nat}:rW (.list ds) none (some (m:Int))=some (.list (ds.take m)):=by
 show some (Dat.list (cutD ds none (some (m:Int))))=_;unfold cutD;rw[HT.rk,HT.oU,drop_zero,Nat.sub_zero];by_cases h:m<=ds.length
 ·rw[Nat.min_eq_left h]
 ·rw[Nat.min_eq_right (by omega),take_of_length_le (le_refl _),take_of_length_le (by omega)]
theorem jV{m:Nat}:rW (.list ds) (some (m:Int)) none=some (.list (ds.drop m)):=by
 show some (Dat.list (cutD ds (some (m:Int)) none))=_;unfold cutD;rw[HT.rk,HT.oU];by_cases h:m<=ds.length
 ·rw[Nat.min_eq_left h,take_of_length_le (by rw[length_drop];exact le_refl _)]
 ·rw[Nat.min_eq_right (by omega),drop_eq_nil_of_le (le_refl _),drop_eq_nil_of_le (by omega),List.take_nil]
theorem FA{xs ys:List Dat}(h:xs.length+ys.length<=sizeLine):jO (.list xs) (.list ys)=some (.list (xs++ys)):=if_pos h
theorem tf{gt:Dat->Option dH}{gb:aD->Option Fl}{β:Type}{enc:β->Dat}(I:List β->aD->Prop)(step:∀x l Γ,I (x::l) Γ->∃as,gt (enc x)=some as/\∃au,gb (setG Γ as)=some (.nx au)/\I l au):∀(l:List β) (Γ:aD),I l Γ->∃au,forL gt gb (l.map enc) Γ=some (.nx au)/\I [] au
 |[],Γ,h=>⟨Γ,rfl,h⟩
 |x::l,Γ,h=>by
  obtain⟨as,e1,Γ1,e2,h1⟩:=step x l Γ h;obtain⟨CM,e3,h2⟩:=tf I step l Γ1 h1;refine⟨CM,?_,h2⟩;show(gt (enc x)).bind _=_;rw[e1];show(gb (setG Γ as)).bind _=_;rw[e2];exact e3
theorem d9{g1 g2:aD->Option Fl}(h:g1 Γ=some (.rt d)):bG g1 g2 Γ=some (.rt d):=by
 unfold bG;rw[h];rfl
open PySem PySem.Spec PyProof.Rows L2
open PySem.W (Dat kqdOk)
variable {M:Model}
theorem mx{α:Type}{s:Shared}{t:Sem α}{Q:α->Shared->Prop}(h:n<=s.toks)(hw:wpAny M A t (λa s'=>n<=s'.toks->Q a s') E s):wpAny M A t Q E s:=
 wpAny_mono (wpAny_toks_of h hw) (λ_ _ z=>z.2 z.1) λ_ _ z=>z.2
def nW (X:Cx) (e:Expr) (t:TE):Prop:=∀(pins:List (Addr×Obj)) (s:Shared) (σ:L2.St) (H:Hp) (Q:VK),Inv X pins σ H s->1<=s.toks->t σ H Q->wpAny (model X.prog X.w) X.A (eval e X.env) (EP X pins σ Q) X.xe s
def xn (X:Cx) (es:List Expr) (t:TA):Prop:=∀(pos:Pos) (pins:List (Addr×Obj)) (s:Shared) (σ:L2.St) (H:Hp) (Q:List V->Hp->Prop),Inv X pins σ H s->1<=s.toks->t σ H Q->wpAny (model X.prog X.w) X.A (spliced (backTo pos (starEach es X.env))) (AP X pins σ Q) X.xe s
def v5 (X:Cx) (st:Stmt) (t:TS):Prop:=∀(pins:List (Addr×Obj)) (s:Shared) (σ:L2.St) (H:Hp) (D:Ends),Inv X pins σ H s->1<=s.toks->t D σ H->wpAny (model X.prog X.w) X.A (exec st X.env) (SP X pins D) X.xe s
def jQ (X:Cx) (st:List Stmt) (t:TS):Prop:=∀(pins:List (Addr×Obj)) (s:Shared) (σ:L2.St) (H:Hp) (D:Ends),Inv X pins σ H s->1<=s.toks->t D σ H->wpAny (model X.prog X.w) X.A (execs st X.env) (SP X pins D) X.xe s
variable {te:TE}
theorem MY(h:PE X e te):nW X e te:=λpins s σ H Q I _ q=>h pins s σ H Q I q
variable {tl:TA} in
theorem yR(h:PA X es tl):xn X es tl:=λpos pins s σ H Q I _ q=>h pos pins s σ H Q I q
variable {t:TS}
theorem Dv(h:PS X st t):v5 X st t:=λpins s σ H D I _ q=>h pins s σ H D I q
variable {rest:List Stmt}
theorem AS(h:iu X rest t):jQ X rest t:=λpins s σ H D I _ q=>h pins s σ H D I q
variable {ta:TE}
theorem j7(h:nW X e te)(k:∀σ H Q,ta σ H Q->te σ H Q):nW X e ta:=λpins s σ H Q I ht q=>h pins s σ H Q I ht (k _ _ _ q)
variable {tl:TA} in
theorem GS{Ri:TA}(h:xn X es tl)(k:∀σ H Q,Ri σ H Q->tl σ H Q):xn X es Ri:=λpos pins s σ H Q I ht q=>h pos pins s σ H Q I ht (k _ _ _ q)
variable {u:TS}
theorem l7(h:v5 X st t)(k:∀D σ H,u D σ H->t D σ H):v5 X st u:=λpins s σ H D I ht q=>h pins s σ H D I ht (k _ _ _ q)
theorem wo(h:jQ X rest t)(k:∀D σ H,u D σ H->t D σ H):jQ X rest u:=λpins s σ H D I ht q=>h pins s σ H D I ht (k _ _ _ q)
theorem wt(h1:v5 X st t)(h2:jQ X rest u):jQ X (st::rest) (M6 t u):=by
 intro pins s σ H D I ht h;refine wpAny_execs_cons (mx ht (bP (h1 pins s σ H {D with nx:=u D} I ht h) λf s1 q lN=>?_));cases f with
 |next=>
  obtain⟨bD,H',I',q⟩:=q;exact h2 pins s1 bD H' D I' lN q
 |ret v=>exact q
 |brk=>exact q
 |cont=>exact q
theorem GG(h1:v5 X st t):jQ X [st] t:=by
 intro pins s σ H D I ht h;refine wpAny_execs_cons (bP (h1 pins s σ H D I ht h) λf s1 q=>?_);cases f with
 |next=>exact wpAny_execs_nil q
 |ret v=>exact q
 |brk=>exact q
 |cont=>exact q
variable {c:Expr} {as:List Stmt}
theorem Dx{tc:TT}{bs:List Stmt}(hc:PT X c tc)(ha:jQ X as t)(hb:jQ X bs u):v5 X (.If c as bs pos) (M9 tc t u):=by
 intro pins s σ H D I ht h;refine wpAny_If (mx ht (bP (hc pins s σ H _ I h) λd s1 ⟨H1,I1,q1⟩ lN=>?_));cases d with
 |true=>exact ha pins s1 σ H1 D I1 lN q1
 |false=>exact hb pins s1 σ H1 D I1 lN q1
theorem AV(he:nW X e te):v5 X (.Return (some e) pos) (M7 te):=by
 intro pins s σ H D I ht h;exact wpAny_Return_some (bP (he pins s σ H _ I ht h) λv s1 ⟨x,H1,I1,r1,q1⟩=>⟨x,σ,H1,I1,r1,q1⟩)
variable {x:Str}
theorem AU{i:Nat}(hN:X.N.Nodup)(hi:X.N[i]?=some x)(hx:Loc X.env.scope x)(he:nW X e te)(hs:swapsWith e (some (.Name x pos')) pos.line X.env=pure false)(hf:X.fn x=true\/X.env.scope.names.lookup x=some .local):
  v5 X (.Assign [.Name x pos'] e pos) (BU te (xO i)):=by
 intro pins s σ H D I ht h;refine wpAny_Assign_Name (bP (he pins s σ H _ I ht h) λv s1 ⟨y,H1,I1,r1,q1⟩=>?_) hs;exact j3 I1 hN hi hx r1 (λs2 I2=>⟨_,H1,I2,q1⟩) hf
variable {tl:TA} in
theorem yS(ha:nW X e te)(hr:xn X es tl)(hs:starEach (e::es) X.env=(false,eval e X.env)::starEach es X.env:=by rfl):xn X (e::es) (rh te tl):=by
 intro pos pins s σ H Q I ht h;rw[hs];show wpAny _ _ (spliced ((false,eval e X.env)::backTo pos (starEach es X.env))) _ _ s;refine Calls.spliced_cons (mx ht (bP (ha pins s σ H _ I ht h) λu s1 ⟨x,H1,I1,r1,q1⟩ lN=>?_));exact bP (hr pos pins s1 σ H1 _ I1 lN q1) λus s2 ⟨xs,H2,I2,r2,q2⟩=>⟨x::xs,H2,I2,.cons r1 r2,q2⟩
variable {tb:TE} {op:Operator}
theorem yP{r:R2}(ho:dF X (binaryOp op) r)(ha:nW X a ta)(hb:nW X b tb):nW X (.BinOp a op b pos) (yc r ta tb):=by
 intro pins s σ H Q I ht h;refine wpAny_BinOp (mx ht (bP (ha pins s σ H _ I ht h) λv s1 ⟨x,H1,I1,r1,q1⟩ lN=>?_));exact bP (hb pins s1 σ H1 _ I1 lN q1) λu s2 ⟨y,H2,I2,r2,q2⟩=>ho pins s2 σ H2 x y v u Q I2 r1 r2 q2
variable {o:Expr} {to:TE} {T:String} {gc:Pos}
variable {tl:TA} in
theorem MZ{id:String}{name:Str}{apos:Pos}{r:V->List V->Hp->VK->Prop}(pa:PlainAttrs T)(slot:PySem.Slot T name id)(NL:typeOf (.builtin id)=pure (.type "method_descriptor"))(hm:v9 X id r)(ho:nW X o to)(ha:PA X (e::es) tl)(dS:attributeBase o name X.env (eval o X.env)=eval o X.env)(gV:((backTo gc (starEach (e::es) X.env)).all (λx=>!x.1)&&(backToKw gc (keywordEach [] X.env)).all (λx=>x.1.isSome)
   &&decide ((e::es).length+([]:List Keyword).length+(if([]:List Keyword).isEmpty then 0 else 1)<30))=true)(dR:(apos.endLine==gc.line)=true)(hs:starEach (e::es) X.env=(false,eval e X.env)::starEach es X.env)(ez:(backTo gc (starEach es X.env)).any (·.1)=false):
  nW X (.Call (.Attribute o name apos) (e::es) [] gc) (Mb X.K T r to tl):=by
 intro pins s σ H Q I ht h;refine wpAny_Call_method_late dS gV dR rfl (bP (ho pins s σ H _ I ht h) λv s1 ⟨x,H1,I1,r1,ty,q1⟩=>?_);obtain⟨h1,h2⟩:=pX I1 r1 ty;refine⟨T,id,pa,slot,NL,h1,h2,?_⟩;have hA:=ha gc pins s1 σ H1 _ I1 q1;rw[hs]at hA ⊢;refine Calls.callWith_builtin (by show(false || (backTo gc (starEach es X.env)).any (·.1))=false;rw[ez]<;>rfl) (Calls.evalArgs_plain ?_);exact bP hA λus s2 ⟨vs,H2,I2,r2,q2⟩=>hm pins s2 σ H2 x vs v us Q I2 r1 r2 q2
structure rR (P:Program) (w:World) (K:PySem.W.Frag) (mg:Str->Option Value) (base:Heap) (CX:pT) (k:Nat) (f:Addr) (fd:FuncData) (ps:List Str) (sp:Sp):Prop where
 len:∀vs H Q E,sp vs H Q E->vs.length=ps.length
 run:∀(A:Around) (outer:List Env) (s:Shared) (H:Hp) (args:Args) (us:List Value) (vs:List V) (Q:VK) (E:XK),1<=s.toks->cj k A->Ad P w K mg base A outer s H->BindsTo s fd args (ps.zip us)->Vals vs us->sp vs H Q E->
  codeAny (model P w) A (.call (.ref f) args) (CR CX outer P w H s Q E) s
variable {ds:List Value} {CX:pT} {ps:List Str} {E:XK} {fd:FuncData} {lT:List V} {sp:Sp} {f:Addr} {pins:List (Addr×Obj)}
variable {k:Nat} in
theorem Kf{s:Shared}{Q:VK}{us:List Value}{vs:List V}(F:rR X.prog X.w X.K X.mg X.base CX k f fd ps sp)(ht:1<=s.toks)(hr:cj k X.A)(hb:Binds X.K fd ps ds)(hd:Vals lT ds)(hx:Passes CX X E)(I:Inv X pins σ H s)(r:Vals vs us)(h:sp (vs++lT) H Q E):wpAny (model X.prog X.w) X.A (call (.ref f) us) (EP X pins σ Q) X.xe s:=by
 have r2:Vals (vs++lT) (us++ds):=r.append hd;have hl:(us++ds).length=ps.length:=by rw[<- r2.length];exact F.len _ _ _ _ h
 refine wpAny_call (codeAny_mono (F.run X.A X.stack s H ⟨us,[]⟩ (us++ds) (vs++lT) Q E ht hr I.OF (hb s us I.jE hl) r2 h) λr s' hq=>?_);cases r with
 |error e=>exact hx pins σ H s e s' I hq
 |ok fl=>
  cases fl with
  |ret u=>exact I.after hq
  |next=>exact False.elim hq
  |brk=>exact False.elim hq
  |cont=>exact False.elim hq
variable {t:TA} {p:Pos}
variable {k:Nat} in
theorem wz(F:rR X.prog X.w X.K X.mg X.base CX k f fd ps sp)(hr:cj k X.A)(hg:Gl X x)(hm:X.mg x=some (.ref f))(hk:keepIn X.K (.ref f)=true)(hb:Binds X.K fd ps ds)(hd:Vals lT ds)(hx:Passes CX X E)(ha:xn X (e::es) t)(fO:(x==("__debug__" : Str))=false)(he:starEach (e::es) X.env=(false,eval e X.env)::starEach es X.env)(bW:(backTo pos (starEach es X.env)).any (·.1)=false):
  nW X (.Call (.Name x p) (e::es) [] pos) (ri sp lT E t):=by
 intro pins s σ H Q I ht h;refine wpAny_Call_Name_kw (mQ I hg hm ?_ fO);refine callWith_K (h₀:=X.base) I.ok.mod.zg hk (mx ht (bP (ha pos pins s σ H _ I ht h) λus s1 ⟨vs,H1,I1,r,q⟩ lN=>⟨I1.jE,?_⟩)) he bW;exact Kf F lN hr hb hd hx I1 r q
variable {k:Nat} in
theorem yQ(F:gg X.prog X.w X.K X.mg X.base CX k f fd ps sp)(hr:cj k X.A)(hg:Gl X x)(hm:X.mg x=some (.ref f))(hk:keepIn X.K (.ref f)=true)(hb:Binds X.K fd ps ds)(hd:Vals lT ds)(hx:Passes CX X E)(ha:xn X (e::es) t)(fO:(x==("__debug__" : Str))=false)(he:starEach (e::es) X.env=(false,eval e X.env)::starEach es X.env)(bW:(backTo pos (starEach es X.env)).any (·.1)=false):
  nW X (.Call (.Name x p) (e::es) [] pos) (ri sp lT E t):=by
 intro pins s σ H Q I ht h;refine wpAny_Call_Name_kw (mQ I hg hm ?_ fO);refine callWith_K (h₀:=X.base) I.ok.mod.zg hk (bP (ha pos pins s σ H _ I ht h) λus s1 ⟨vs,H1,I1,r,q⟩=>⟨I1.jE,?_⟩) he bW;exact Dg F hr hb hd hx I1 r q
theorem jQ.lL{st:List Stmt}{t:TS}(h:jQ X.lL st t):jQ X st t:=λpins s σ H D I ht hw=>by
 have:=iu.lL (X:=X) (st:=st) (t:=λD' bD H'=>D'=D/\bD=σ/\H'=H/\False) (λ_ _ _ _ _ _ hw=>hw.2.2.2.elim);exact wpAny_mono (h pins s σ H D (I.mU _) ht hw) (λf s' q=>by
  cases f with
  |next=>obtain⟨bD,H',I',q⟩:=q;exact⟨bD,H',I'.iM,q⟩
  |brk=>obtain⟨bD,H',I',q⟩:=q;exact⟨bD,H',I'.iM,q⟩
  |cont=>obtain⟨bD,H',I',q⟩:=q;exact⟨bD,H',I'.iM,q⟩
  |ret v=>obtain⟨v',bD,H',I',r,q⟩:=q;exact⟨v',bD,H',I'.iM,r,q⟩) λ_ _ z=>z.elim
open PySem PySem.Spec PyProof.Rows L2
open PySem.W (Dat kqdOk)
variable {P:Program} {mg:Str->Option Value} {base:Heap} {qual:Str} {body:List Stmt} {scope:Scope} {N:List Str}
theorem EH{K:PySem.W.Frag}{k:Nat}{name:Str}{params:Arguments}{dV kV doc pm bJ ct oc:Value}{an od:Option Addr}{nR:Array (Option Value)}(lk:K.lookup f=some ⟨oc,od,.func (fnOf name qual params body scope dV kV doc pm an bJ ct),nR⟩)(gy:codeIn K bJ qual=true)(S:eh N ps scope)(len:∀vs H Q E,sp vs H Q E->vs.length=ps.length)(hbody:∀(A:Around) (outer:List Env) (s:Shared) (H:Hp) (vs:List V) (Q:VK) (E:XK),cj k (A.deeper (envOfC qual scope s.heap.objs.size f bJ))->sp vs H Q E->
   ∃t,jQ (g9 CX P w K mg base N qual scope f bJ A outer s H E) body t/\t {nx:=λ_ H'=>Q .bU H',rt:=Q} (start N vs) H):
  rR P w K mg base CX (k+1) f (fnOf name qual params body scope dV kV doc pm an bJ ct) ps sp:=by
 refine⟨len,λA outer s H args us vs Q E W7 hr e0 hb r i7=>?_⟩;have hl:=len _ _ _ _ i7;have KX:K.In s.heap:=e0.mod.zg.keeps λb o e=>(e0.bs b o e).1;have lim:s.heap.NoLimit:=e0.mod.nolimit.keeps λb o e=>(e0.bs b o e).1;have Cd:∀y∈ps.zip us,scope.names.lookup y.1=some .local\/(scope.names.lookup y.1=some .cell/\((cellsFrom (s.heap.objs.size+1) scope.names []).lookup y.1).isSome=true):=fun⟨n,v⟩ hy=>by
  rcases S.par n (of_mem_zip hy).1 with q|q
  ·exact .inl q
  ·exact .inr ⟨q,cellsFrom_some _ _ _ (.inl q)⟩
 refine codeAny_call_function hr.depth (KX _ _ lk) rfl S.co S.gen rfl (codeRec_of KX gy) (hb _ _ _ _ ?_);refine mx W7 (wpAny_newFunctionEnv_cells S.kind Cd λenv he s1 x lN=>?_);subst he;refine⟨lim.keeps x.toInCall.keep,codeAny_func ?_⟩;obtain⟨t,ht,hq⟩:=hbody A outer s H vs Q E (hr.deeper _) i7;have I:Inv (g9 CX P w K mg base N qual scope f bJ A outer s H E) [] (start N vs) H s1:=wJ S hr.hd e0 hl r x;refine wpAny_mono (ht [] s1 (start N vs) H _ I lN hq) (λfl s' hs=>?_) λe s' hs=>hs;have fin:∀{bD:L2.St} {H':Hp} {v:V} {u:Value},Inv (g9 CX P w K mg base N qual scope f bJ A outer s H E) [] bD H' s'->RelV v u->Q v H'->CE outer P w H s Q u s':=
  fun{bD H' v u} J rv q=>⟨v,H',J.os,J.bare,J.base,J.hok,rv,q⟩
 cases fl with
 |ret u=>
  obtain⟨v,bD,H',J,rv,q⟩:=hs;exact fin J rv q
 |next=>
  obtain⟨bD,H',J,q⟩:=hs;exact fin (v:=V.bU) (u:=Value.none) J rfl q
 |brk=>
  obtain⟨_,_,_,q⟩:=hs;exact False.elim q
 |cont=>
  obtain⟨_,_,_,q⟩:=hs;exact False.elim q
theorem mw.DQ{K:Fg}{k:Nat}(F:mw K x qual st f fd)(S:eh N ps (aP st))(len:∀vs H Q E,sp vs H Q E->vs.length=ps.length)(hbody:∀(bJ:Value) (A:Around) (outer:List Env) (s:Shared) (H:Hp) (vs:List V) (Q:VK) (E:XK),cj k (A.deeper (envOfC qual (aP st) s.heap.objs.size f bJ))->sp vs H Q E->
   ∃t,jQ (g9 j0 P w K mg base N qual (aP st) f bJ A outer s H E).lL (d4 st) t/\t {nx:=λ_ H'=>Q .bU H',rt:=Q} (start N vs) H):rR P w K mg base j0 (k+1) f fd ps sp:=by
 obtain⟨oc,od,kV,doc,pm,an,bJ,ct,nR,rfl,lk,gy⟩:=F.ex;refine EH lk gy S len λA outer s H vs Q E hr i7=>?_;obtain⟨t,h,q⟩:=hbody bJ A outer s H vs Q E hr i7;exact⟨t,h.lL,q⟩
structure va (P:Program) (w:World) (K:Fg) (mg:Str->Option Value) (base:Heap) (k:Nat) (x:Str) (ps:List Str) (n:Nat) (F:List Dat->Option Dat):Prop where
 ex:∃(f:Addr) (fd:FuncData),rR P w K mg base j0 k f fd ps (AG K n F)/\mg x=some (.ref f)/\keepIn K (.ref f)=true/\Binds K fd ps []
abbrev R9 (X:Cx) (st:List Stmt) (g:aD->Option Fl):Prop:=jQ X st (oo X.K g)
variable {F:List Dat->Option Dat}
theorem ON{K:Fg}{fa:Addr}{k:Nat}{g:aD->Option Fl}(U:mw K x qual st fa fd)(hm:mg x=some (.ref fa))(hB:Binds K fd ps [])(S:eh N ps (aP st))(hn:ps.length=n)(hbody:∀(bJ:Value) (A:Around) (outer:List Env) (s:Shared) (H:Hp) (E:XK),cj k (A.deeper (envOfC qual (aP st) s.heap.objs.size fa bJ))->R9 (g9 j0 P w K mg base N qual (aP st) fa bJ A outer s H E).lL (d4 st) g)(hF:∀ds d,ds.length=n->F ds=some d->gq N g ds=some d):va P w K mg base (k+1) x ps n F:=by
 have bW:ps.length<=N.length:=by have:=congrArg List.length S.pre;rw[length_take]at this;omega
 refine⟨fa,fd,mw.DQ U S (λvs H Q E h=>?_) (λbJ A outer s H vs Q E hr h=>?_),hm,U.kp,hB⟩
 ·obtain⟨Av,ds,d,_,r,hl,_⟩:=h;rw[r.length,hl,hn]
 ·obtain⟨Av,ds,d,hA,r,hl,hd,q⟩:=h;have fE:=hF ds d hl hd;unfold gq at fE;refine⟨_,hbody bJ A outer s H E hr,?_⟩;cases hg:g (bY N ds)with
  |none=>rw[hg]at fE;cases fE
  |some fl=>
   refine⟨H,Av,none,[],bY N ds,fl,jM hA r (by omega),hg,?_⟩;rw[hg]at fE;cases fl with
   |nx Γ=>cases fE;exact λbD H' ⟨ad,G⟩=>q _ H' G.same .bU
   |rt d'=>cases fE;exact λv H' s r=>q v H' s r
   |bk Γ=>cases fE
   |ct Γ=>cases fE
   |rm d' Γ=>cases fE
structure SA (X:Cx) (e:Expr) (t:TE):Prop where
 o:nW X e t
structure SD (X:Cx) (e:List Expr) (t:TA):Prop where
 o:xn X e t
structure Sz (X:Cx) (e:Stmt) (t:TS):Prop where
 o:v5 X e t
structure Pr (X:Cx) (e:List Stmt) (t:TS):Prop where
 o:jQ X e t
abbrev TF (X:Cx) (e:Expr) (f:ay->Option Dat):Prop:=SA X e (tF X.K f)
abbrev FQ (X:Cx) (e:List Expr) (f:ay->Option (List Dat)):Prop:=SD X e (AB X.K f)
abbrev xk (X:Cx) (e:Stmt) (g:aD->Option Fl):Prop:=Sz X e (oo X.K g)
abbrev qS (X:Cx) (e:List Stmt) (g:aD->Option Fl):Prop:=Pr X e (oo X.K g)
variable {fs:ay->Option (List Dat)} in
theorem hV(h:g5 X es fs):FQ X es fs:=⟨yR h.o⟩
variable {g:aD->Option Fl} in
theorem rq(h:jc X st g):xk X st g:=⟨Dv h.o⟩
variable {g:aD->Option Fl} in
theorem jK(h:jP X rest g):qS X rest g:=⟨AS h.o⟩
variable {g:aD->Option Fl} in
theorem p0(h:xk X st g):qS X [st] g:=⟨GG h.o⟩
variable {g1 g2:aD->Option Fl}
theorem jX(h1:xk X st g1)(h2:qS X rest g2):qS X (st::rest) (bG g1 g2):=⟨wo (wt h1.o h2.o) λD σ H aT=>by
 obtain⟨aq,Av,pn,aQ,Γ,fl,G,hf,q⟩:=aT;obtain⟨nU,e1,hf⟩:=bind_some hf;refine⟨aq,Av,pn,aQ,Γ,nU,G,e1,?_⟩;cases nU with
 |nx au=>exact λbD H' G'=>⟨aq,Av,pn,aQ,au,fl,G',hf,q⟩
 |rt d=>cases hf;exact q
 |bk au=>cases hf;exact q
 |ct au=>cases hf;exact q
 |rm d au=>cases hf;exact q⟩
variable {f:ay->Option Dat}
theorem oZ(h:TF X e f):xk X (.Return (some e) pos) (iW f):=⟨l7 (AV h.o) λD σ H aT=>by
 obtain⟨aq,Av,pn,aQ,Γ,fl,⟨ad,G⟩,hf,q⟩:=aT;obtain⟨d,e1,hf⟩:=bT hf;subst hf;exact⟨Av,bo Γ,d,G.fY.same G.same,G.gE,e1,λv H' s r=>q v H' (G.same.trans s) r⟩⟩
variable {bs:List Stmt} in
theorem rz(hc:gR X c ft)(ha:qS X as g1)(hb:qS X bs g2):xk X (.If c as bs pos) (eI ft g1 g2):=⟨l7 (Dx hc.o ha.o hb.o) λD σ H aT=>by
 obtain⟨aq,Av,pn,aQ,Γ,fl,⟨ad,G⟩,hf,q⟩:=aT;obtain⟨k,e1,hf⟩:=bind_some hf;refine⟨Av,bo Γ,k,G.fY.same G.same,G.gE,e1,λH' s=>?_⟩;cases k with
 |true=>rw[if_pos rfl]at hf ⊢;exact⟨aq,Av,pn,aQ,Γ,fl,⟨ad,G.grow s⟩,hf,q⟩
 |false=>rw[if_neg Bool.false_ne_true]at hf ⊢;exact⟨aq,Av,pn,aQ,Γ,fl,⟨ad,G.grow s⟩,hf,q⟩⟩
theorem oY(i:Nat)(hN:X.N.Nodup)(h:TF X e f)(hi:X.N[i]?=some x:=by rfl)(hx:Loc X.env.scope x:=by first|exact .inl rfl|exact .inr rfl)(hs:swapsWith e (some (.Name x pos')) pos.line X.env=pure false:=by rfl)(hf:X.fn x=true\/X.env.scope.names.lookup x=some .local:=by first|exact .inl rfl|exact .inr rfl):
  xk X (.Assign [.Name x pos'] e pos) (cW i f):=⟨l7 (AU hN hi hx h.o hs hf) tO⟩
variable {fs:ay->Option (List Dat)} in
theorem wj(ha:TF X e fa)(hr:FQ X es fs)(hs:starEach (e::es) X.env=(false,eval e X.env)::starEach es X.env:=by rfl):FQ X (e::es) (ax fa fs):=⟨GS (yS ha.o hr.o hs) λσ H Q aT=>by
 obtain⟨Av,ρ,d,hA,hE,hf,q⟩:=aT;obtain⟨dx,e1,hf⟩:=bind_some hf;obtain⟨ds,e2,hf⟩:=bT hf;subst hf;exact⟨Av,ρ,dx,hA,hE,e1,λx H1 s1 r1=>⟨Av,ρ,ds,hA.same s1,hE.same s1,e2,λxs H2 s2 r2=>q _ H2 (s1.trans s2) (.cons (r1.same s2) r2)⟩⟩⟩
theorem yB(pa:TF X a fa)(pb:TF X b fb):TF X (.BinOp a .Add b pos) (f2 jO fa fb):=⟨j7 (yP ((l8.or B1).or (yU.or pq)) pa.o pb.o) (qZ yV)⟩
variable {fs:ay->Option (List Dat)} in
theorem jg{k:Nat}(D:va X.prog X.w X.K X.mg X.base k x ps n F)(hr:cj k X.A)(ha:FQ X (e::es) fs)(hg:Gl X x:=by rfl)(fO:(x==("__debug__" : Str))=false:=by decide)(he:starEach (e::es) X.env=(false,eval e X.env)::starEach es X.env:=by rfl)(bW:(backTo pos (starEach es X.env)).any (·.1)=false:=by rfl):TF X (.Call (.Name x p) (e::es) [] pos) (cu n F fs):=by
 obtain⟨f,fd,h1,h2,h3,h4⟩:=D.ex;exact⟨j7 (wz h1 hr hg h2 h3 h4 .nil rH ha.o fO he bW) BS⟩
variable {fs:ay->Option (List Dat)} in
theorem Dk{k:Nat}(D:Dn X.prog X.w X.K X.mg X.base k x ps n F)(hr:cj k X.A)(ha:FQ X (e::es) fs)(hg:Gl X x:=by rfl)(fO:(x==("__debug__" : Str))=false:=by decide)(he:starEach (e::es) X.env=(false,eval e X.env)::starEach es X.env:=by rfl)(bW:(backTo pos (starEach es X.env)).any (·.1)=false:=by rfl):TF X (.Call (.Name x p) (e::es) [] pos) (cu n F fs):=by
 obtain⟨f,fd,h1,h2,h3,h4⟩:=D.ex;exact⟨j7 (yQ h1 hr hg h2 h3 h4 .nil rH ha.o fO he bW) BS⟩
variable {y:Str} {p1:Pos}
theorem yA{z:Str}{j1 j2:Nat}{p4 p5 p6:Pos}(ho:QF X o f)(VY:(y==z)=false:=by decide +kernel)(dS:attributeBase o "replace" X.env (eval o X.env)=eval o X.env:=by rfl)(dR:(p4.endLine==p5.line)=true:=by rfl):
  TF X (.Call (.Attribute o "replace" p4) [.Constant (.str y) j1 p1,.Constant (.str z) j2 p6] [] p5) (f1 (xC y z) f):=⟨by
 intro pins s σ H Q I ht h;obtain⟨Av,ρ,d,hA,hE,hf,q⟩:=h;obtain⟨dw,e1,hf⟩:=bind_some hf;unfold xC at hf;split at hf
 ·rename_i w;split at hf
  ·rename_i hz;cases hf;refine wpAny_Call_method_late dS rfl dR rfl (mx ht (bP (ho.o pins s σ H (λx H2=>x=.str w/\aO H H2) I ⟨Av,ρ,_,hA,hE,e1,λv H' s' r=>⟨r.cy,s'⟩⟩) λv s1 ⟨x,H1,I1,r1,hx,sm⟩ lN=>?_));subst hx;obtain⟨h1,h2⟩:=pX I1 r1 (show LP X.K "str" (.str w) H1 from rfl);refine⟨"str","str.replace",plainAttrs_str,PySem.F.slot_str_replace,PySem.F.type_str_replace,h1,h2,?_⟩;obtain⟨t,rfl⟩:=r1;refine Calls.callWith_builtin rfl (Calls.evalArgs_plain ?_);refine Calls.spliced_cons (Calls.Constant_str (k:=j1) (pos:=p1) ?_);show wpAny _ _ (spliced ((false,eval (.Constant (.str z) j2 p6) X.env)::[])) _ _ _;refine Calls.spliced_cons (Calls.Constant_str (k:=j2) (pos:=p6) (Calls.spliced_nil ?_));refine SC.replace (u:=s1.toks) (v:=s1.toks+1) (by show s1.toks≠0;omega) (by show s1.toks+1≠0;omega) (by show s1.toks≠s1.toks+1;omega) VY hz λt' k=>⟨.str _,H1,I1.tok k,⟨t',rfl⟩,q _ H1 sm (.str _)⟩
  ·cases hf
 ·cases hf⟩
variable {fs:ay->Option (List Dat)} in
theorem nL{K:Fg}:∀σ H Q,kP K (λρ=>(f ρ).bind λd=>(fs ρ).bind λds=>eO d ds) σ H Q->Mb K "str" Di (tF K f) (AB K fs) σ H Q:=by
 rintro σ H Q ⟨Av,ρ,d,hA,hE,hf,q⟩;obtain⟨dx,e1,hf⟩:=bind_some hf;obtain⟨ds,e2,hf⟩:=bind_some hf;unfold eO at hf;split at hf
 ·split at hf
  ·rename_i hz;cases hf;refine⟨Av,ρ,_,hA,hE,e1,λx H1 s1 r1=>⟨by rw[r1.cy];exact rfl,Av,ρ,_,hA.same s1,hE.same s1,e2,λxs H2 s2 r2=>?_⟩⟩;obtain⟨v,rfl,rv⟩:=r2.cJ;exact⟨_,_,r1.cy,by rw[rv.cy],hz.1,hz.2.1,hz.2.2,λp hp=>q H2 p _ (s1.trans s2) hp (aF.strs _)⟩
  ·cases hf
 ·cases hf
variable {fs:ay->Option (List Dat)} in
theorem rf{K:Fg}:∀σ H Q,tF K (fL fs) σ H Q->kP K fs σ H Q:=by
 rintro σ H Q ⟨Av,ρ,d,hA,hE,hf,q⟩;obtain⟨ds,e1,hf⟩:=bT hf;subst hf;exact⟨Av,ρ,ds,hA,hE,e1,λH1 p xs s hp r=>q _ _ (s.trans (cb hp _)) (.pw (hA.same s) hp r)⟩
variable {fs:ay->Option (List Dat)} in
noncomputable def eD (f:ay->Option Dat) (fs:ay->Option (List Dat)):ay->Option (List Dat):=λρ=>(f ρ).bind λd=>(fs ρ).bind λds=>eO d ds
variable {p2 p3:Pos}
variable {fs:ay->Option (List Dat)} in
theorem wk(ho:TF X o f)(ha:g5 X [e] fs)(dS:attributeBase o "split" X.env (eval o X.env)=eval o X.env:=by rfl)(gV:((backTo p3 (starEach [e] X.env)).all (λx=>!x.1)&&(backToKw p3 (keywordEach [] X.env)).all (λx=>x.1.isSome)&&decide (([e]:List Expr).length+([]:List Keyword).length+(if([]:List Keyword).isEmpty then 0 else 1)<30))=true:=by rfl)(dR:(p2.endLine==p3.line)=true:=by rfl)(kc:starEach [e] X.env=(false,eval e X.env)::starEach [] X.env:=by rfl)(ez:(backTo p3 (starEach [] X.env)).any (·.1)=false:=by rfl):
  TF X (.Call (.Attribute o "split" p2) [e] [] p3) (fL (eD f fs)):=⟨j7 (MZ plainAttrs_str slot_str_split type_str_split pC ho.o ha.o dS gV dR kc ez) λσ H Q h=>nL σ H Q (rf σ H Q h)⟩
variable {fs:ay->Option (List Dat)} in
theorem gM(ho:QF X o f)(ha:g5 X [e] fs)(dS:attributeBase o "split" X.env (eval o X.env)=eval o X.env:=by rfl)(gV:((backTo p3 (starEach [e] X.env)).all (λx=>!x.1)&&(backToKw p3 (keywordEach [] X.env)).all (λx=>x.1.isSome)&&decide (([e]:List Expr).length+([]:List Keyword).length+(if([]:List Keyword).isEmpty then 0 else 1)<30))=true:=by rfl)(dR:(p2.endLine==p3.line)=true:=by rfl)(kc:starEach [e] X.env=(false,eval e X.env)::starEach [] X.env:=by rfl)(ez:(backTo p3 (starEach [] X.env)).any (·.1)=false:=by rfl):
  QF X (.Call (.Attribute o "split" p2) [e] [] p3) (fL (eD f fs)):=⟨bA (nQ plainAttrs_str slot_str_split type_str_split pC ho.o ha.o dS gV dR kc ez) λσ H Q h=>nL σ H Q (rf σ H Q h)⟩
variable {j:Nat}
theorem BZ(i:Nat){g2:aD->Option Fl}(hN:X.N.Nodup)(ho:QF X o f)(C9:qS X rest g2)(dS:attributeBase o "split" X.env (eval o X.env)=eval o X.env:=by rfl)(dR:(p2.endLine==p3.line)=true:=by rfl)(hi:X.N[i]?=some x:=by rfl)(hx:Loc X.env.scope x:=by first|exact .inl rfl|exact .inr rfl)(hs:swapsWith (.Call (.Attribute o "split" p2) [.Constant (.str y) j p1] [] p3) (some (.Name x pos')) pos.line X.env=pure false:=by rfl)(hf:X.fn x=true\/X.env.scope.names.lookup x=some .local:=by first|exact .inl rfl|exact .inr rfl):
  jP X (.Assign [.Name x pos'] (.Call (.Attribute o "split" p2) [.Constant (.str y) j p1] [] p3) pos::rest) (bG (cW i (fL (eD f (ax (fC (.str y)) aK)))) g2):=⟨by
 have Ov:∀(pins:List (Addr×Obj)) (s:Shared) (σ:L2.St) (H:Hp) (Q:VK),Inv X pins σ H s->tF X.K (fL (eD f (ax (fC (.str y)) aK))) σ H Q->wpAny (model X.prog X.w) X.A (eval (.Call (.Attribute o "split" p2) [.Constant (.str y) j p1] [] p3) X.env) (λv s'=>1<=s'.toks/\EP X pins σ Q v s') X.xe s:=by
  intro pins s σ H Q I h;have h:=nL σ H Q (rf σ H Q h);refine wpAny_Call_method_late dS rfl dR rfl (bP (ho.o pins s σ H _ I h) λv s1 ⟨x,H1,I1,r1,ty,q1⟩=>?_);obtain⟨h1,h2⟩:=pX I1 r1 ty;refine⟨"str","str.split",plainAttrs_str,slot_str_split,type_str_split,h1,h2,?_⟩;refine Calls.callWith_builtin rfl (Calls.evalArgs_plain ?_);refine Calls.spliced_cons (Calls.Constant_str (k:=j) (pos:=p1) (Calls.spliced_nil ?_));obtain⟨Av,ρ,ds,hA,hE,zv,q2⟩:=q1;cases zv;have q3:=q2 [.str y] H1 (aO.refl H1) (.cons (.str y) .nil);refine wpAny_mono (wpAny_toks_of (n:=1) (show 1<=s1.toks+1 by omega) (pC pins {s1 with toks:=s1.toks+1} σ H1 x [.str y] v [.str y s1.toks] Q (I1.tok _) r1 (.cons ⟨_,rfl⟩ .nil) q3)) (λ_ _ z=>z) λ_ _ z=>z.2
 intro pins s σ H D I h;obtain⟨aq,Av,pn,aQ,Γ,fl,G,hg,q⟩:=h;obtain⟨nU,e1,hg⟩:=bind_some hg;have key:oo X.K (cW i (fL (eD f (ax (fC (.str y)) aK)))) {D with nx:=λbD H'=>oo X.K g2 D bD H'} σ H:=⟨aq,Av,pn,aQ,Γ,nU,G,e1,by
  cases nU with
  |nx au=>exact λbD H' G'=>⟨aq,Av,pn,aQ,au,fl,G',hg,q⟩
  |rt d=>cases hg;exact q
  |bk au=>cases hg;exact q
  |ct au=>cases hg;exact q
  |rm d au=>cases hg;exact q⟩
 have Hh:=tO _ _ _ key;refine wpAny_execs_cons (wpAny_Assign_Name (bP (Ov pins s σ H _ I Hh) λv s1 ⟨lN,y1,H1,I1,r1,q1⟩=>?_) hs);refine mx lN (j3 I1 hN hi hx r1 (λs2 I2 NN=>?_) hf);exact C9.o pins s2 _ H1 D I2 NN q1⟩
theorem IB{K:Fg}{k:Nat}(N:List Str)(U:FnAt K mg x st ps){g:aD->Option Fl}(hbody:N.Nodup->∀(fa:Addr) (bJ:Value) (A:Around) (outer:List Env) (s:Shared) (H:Hp) (E:XK),cj k (A.deeper (envOfC x (aP st) s.heap.objs.size fa bJ))->qS (g9 j0 P w K mg base N x (aP st) fa bJ A outer s H E).lL (d4 st) g)(S:eh N ps (aP st):=by exact⟨rfl,rfl,rfl,by decide +kernel,rfl,by decide +kernel,by decide +kernel⟩)(hn:ps.length=n:=by rfl):va P w K mg base (k+1) x ps n (gq N g):=by
 obtain⟨f,fd,U,hm,hB⟩:=U.ex;exact ON U hm hB S hn (λa b c d e f2 g2=>(hbody S.nd f a b c d e f2 g2).o) λ_ _ _ h=>h
open PySem PySem.Spec PyProof.Rows L2
open PySem.W (Dat kqdOk)
noncomputable def we:Dat->V
 | .str x=>.str x
 | .int i=>.int i
 | .bool b=>.bl b
 |_=>.bU
theorem Kc{K:Fg}(h:pM d=true):aS K H Av (we d) d:=by
 cases d with
 |none=>exact .bU
 |bool b=>exact .bl b
 |int i=>exact .int i
 |str x=>exact .str x
 |_=>cases h
noncomputable abbrev zf (cc:List (Str×Dat)):List (L2.Key×V):=cc.map λp=>(Sum.inr p.1,we p.2)
noncomputable def td (cc:List (Str×Dat)):Dat->Option Dat
 | .str x=>(cc.find? λp=>decide (p.1=x)).map (·.2)
 |_=>none
noncomputable def vG (cc:List (Str×Dat)):Dat->Option Dat
 | .str x=>some (.bool (!(cc.find? λp=>decide (p.1=x)).isSome))
 |_=>none
theorem sI(x:Str):∀cc:List (Str×Dat),nY (zf cc) (Sum.inr x)=((cc.find? λp=>decide (p.1=x)).map (·.2)).map we
 |[]=>rfl
 |p::cc=>by
  have ih:=sI x cc;unfold nY at ih ⊢;rw[show zf (p::cc)=(Sum.inr p.1,we p.2)::zf cc from rfl,find?_cons,find?_cons];by_cases h:p.1=x
  ·rw[decide_eq_true h,decide_eq_true (show(Sum.inr p.1:L2.Key)=Sum.inr x by rw[h])];rfl
  ·rw[decide_eq_false h,decide_eq_false (λz:(Sum.inr p.1:L2.Key)=Sum.inr x=>h (by injection z))];exact ih
structure DC (P:Program) (w:World) (K:Fg) (mg:Str->Option Value) (x:Str) (cc:List (Str×Dat)):Prop where
 ex:∃(a:Addr) (vs:List (L2.Key×Value)),mg x=some (.ref a)/\(a==sysModules)=false/\KV (zf cc) vs/\∀h:Heap,K.In h->h.DictOf (jj P w) a vs
 sc:∀p∈cc,pM p.2=true
variable {cc:List (Str×Dat)} {d:Str}
theorem qj(D:DC X.prog X.w X.K X.mg d cc)(ha:QF X e f)(hg:Gl X d:=by rfl)(hd:(d==("__debug__" : Str))=false:=by decide)(hm:behindInMarks .NotIn (.Name d p)=false:=by with_unfolding_all rfl):gR X (.Compare e [.NotIn] [.Name d p] pos) (aZ (f1 (vG cc) f)):=⟨by
 obtain⟨a,vs,h1,h2,rel,hD⟩:=D.ex;have ho:dF X (compareOp .NotIn) (λx y H Q=>∃k:Str,x=.str k/\y=.ref a/\Q (.bl (!(nY (zf cc) (Sum.inr k)).isSome)) H):=by
  intro pins s σ H x y v u Q I rx ry h;obtain⟨k,rfl,rfl,q⟩:=h;obtain⟨t,rfl⟩:=rx;cases ry;refine wpAny_notIn_of (o7 _ _ k t) h2 (hD s.heap I.jE).mapOf ?_;rw[<- (rel.val (Sum.inr k)).Ed];exact⟨.bl _,H,I.tok _,rfl,q⟩
 refine ox (AR ho ha.o (mM (v:=.ref a) hg h1 rfl hd) hm) λσ H Q ⟨Av,ρ,b,hA,hE,hf,q⟩=>?_;obtain⟨dd,e1,hf⟩:=bind_some hf;obtain⟨dx,e2,e1⟩:=bind_some e1;unfold vG at e1;split at e1
 ·rename_i k;cases e1;cases hf;refine⟨Av,ρ,_,hA,hE,e2,λx H1 s1 r1=>⟨k,r1.cy,rfl,_,rfl,?_⟩⟩;rw[sI,Option.isSome_map,Option.isSome_map];exact q H1 s1
 ·cases e1⟩
theorem mZ(D:DC X.prog X.w X.K X.mg d cc)(ha:QF X e f)(hs:PD e:=by intro _ _;rfl)(hg:Gl X d:=by rfl)(hd:(d==("__debug__" : Str))=false:=by decide):QF X (.Subscript (.Name d p) e pos) (f1 (td cc) f):=⟨by
 obtain⟨a,vs,h1,h2,rel,hD⟩:=D.ex;intro pins s σ H Q I h;obtain⟨Av,ρ,dd,hA,hE,hf,q⟩:=h;obtain⟨dx,e2,e1⟩:=bind_some hf;unfold td at e1;split at e1
 ·rename_i k;refine JZ PySem.F.slot_dict_getitem.lookup hs (bP ((mM (v:=.ref a) hg h1 rfl hd) pins s σ H (λx H1=>x=.ref a/\H1=H) I ⟨rfl,rfl⟩) λu s1 ⟨x,H1,I1,rx,ex,eH⟩=>?_);subst ex eH;refine bP (ha.o pins s1 σ H1 (λy H2=>y=.str k/\aO H1 H2) I1 ⟨Av,ρ,_,hA,hE,e2,λv H' s' r=>⟨r.cy,s'⟩⟩) λiv s2 ⟨y,H2,I2,ry,ey,sm⟩=>?_;subst ey;cases rx;obtain⟨t,rfl⟩:=ry;have dk:=hD s2.heap I2.jE;refine⟨dk.typeIs,?_⟩;have hv:nY (zf cc) (Sum.inr k)=some (we dd):=by rw[sI,e1];rfl
  obtain⟨w',hw,ko⟩:=qT.some_of (v:=we dd) (o:=valueAt vs (Sum.inr k)) (by rw[<- hv];exact rel.val _);have Wb:pM dd=true:=by
   obtain⟨p,hp,rfl⟩:=map_eq_some_iff.mp e1;exact D.sc p (List.mem_of_find?_eq_some hp)
  exact wpAny_getItem_of (o7 _ _ k t) dk.mapOf hw ⟨we dd,H2,I2.tok _,ko,q _ H2 sm (Kc Wb)⟩
 ·cases e1⟩
open PySem PySem.Spec PyProof.Rows L2
open PySem.W (Dat kqdOk)
variable {fc:ay->Option Dat}
theorem gh(ha:QF X a fa)(hb:QF X b fb)(hc:QF X c fc)(hm:lastMarks [.LtE,.LtE] [b,c]=false:=by with_unfolding_all rfl):gR X (.Compare a [.LtE,.LtE] [b,c] pos) (aZ (ia rZ rZ fa fb fc)):=⟨DE uf uf lu lu ha.o hb.o hc.o hm⟩
open PySem PySem.Spec PyProof.Rows L2
open PySem.W (Dat kqdOk)
variable {h:Heap}
theorem rN{i:Int}{t:Tok}(X:K.In h)(G:h.Ns mainGlobals mg)(e:nsIn K mainGlobals x=some (some (.int i t))):∃t,mg x=some (.int i t):=⟨t,mg_of X G e⟩
theorem JA{s:Str}{t:Tok}(X:K.In h)(G:h.Ns mainGlobals mg)(e:nsIn K mainGlobals x=some (some (.str s t))):∃t,mg x=some (.str s t):=⟨t,mg_of X G e⟩
variable {a:Addr}
theorem M4{o:Option Addr}{sl:Array (Option Value)}{s1 s2 s3 s4:Str}{t1 t2 t3 t4:Tok}(X:K.In h)(G:h.Ns mainGlobals mg)(e:nsIn K mainGlobals x=some (some (.ref a)))(l:K.lookup a=some ⟨.type "tuple",o,.seq #[.str s1 t1,.str s2 t2,.str s3 t3,.str s4 t4] n,sl⟩):∃a,TC K mg x [.str s1,.str s2,.str s3,.str s4] a:=
 ⟨a,mg_of X G e,⟨[.str s1,.str s2,.str s3,.str s4],_,_,_,l,rfl,rfl,le_of_lt (bC (by show 4<=1000;decide)),.cons ⟨_,rfl⟩ (.cons ⟨_,rfl⟩ (.cons ⟨_,rfl⟩ (.cons ⟨_,rfl⟩ .nil))),λH Av=>.cons (.str _) (.cons (.str _) (.cons (.str _) (.cons (.str _) .nil)))⟩⟩
noncomputable def CG (w:World):List DictEntry->List (Str×Dat)->Prop
 |[],[]=>True
 |e::es,p::cc=>(∃t,e.key=.str p.1 t)/\e.hash=hashStr w p.1/\RelV (we p.2) e.val/\CG w es cc
 |_,_=>False
theorem wW{P:Program}{w:World}:∀{es:List DictEntry} {cc:List (Str×Dat)},CG w es cc->∃vs:List (L2.Key×Value),KV (zf cc) vs/\Pairs (jj P w) es vs/\vs.map (·.1)=cc.map (λp=>(Sum.inr p.1:L2.Key))/\∀e∈es,∃k,(jj P w).is k e.key=true/\e.hash=(jj P w).hash k
 |[],[],_=>⟨[],.nil,.nil,rfl,λe he=>by cases he⟩
 |e::es,p::cc,h=>by
  obtain⟨⟨t,h1⟩,h2,h3,h4⟩:=h;obtain⟨vs,a,b,c,d⟩:=wW (P:=P) h4;have hk:(jj P w).is (Sum.inr p.1) e.key=true:=by rw[h1];exact o7 P w p.1 t
  refine⟨(Sum.inr p.1,e.val)::vs,.cons ⟨rfl,h3⟩ a,.cons hk rfl b,by rw[map_cons,map_cons,c],?_⟩;intro e' he;rcases mem_cons.mp he with rfl|he
  ·exact⟨_,hk,h2⟩
  ·exact d e' he
 |[],_::_,h=>h.elim
 |_::_,[],h=>h.elim
theorem Jy{es:Array DictEntry}(X:K.In h)(G:h.Ns mainGlobals mg)(e:nsIn K mainGlobals x=some (some (.ref a)))(l:K.lookup a=some ⟨.type "dict",none,.dict es n,#[]⟩)(hs:(a==sysModules)=false)(O5:CG w es.toList cc)(nd:(cc.map (·.1)).Nodup)(sc:∀p∈cc,pM p.2=true):DC P w K mg x cc:=by
 obtain⟨vs,a1,a2,a3,a4⟩:=wW (P:=P) O5;refine⟨⟨a,vs,mg_of X G e,hs,a1,λh' X'=>⟨_,es,n,X' a _ l,⟨rfl,rfl,rfl⟩,rfl,λe he=>a4 e (by simpa using he),a2,?_⟩⟩,sc⟩;rw[a3];have:cc.map (λp=>(Sum.inr p.1:L2.Key))=(cc.map (·.1)).map Sum.inr:=by rw[map_map];rfl
 rw[this];exact List.pairwise_map.mpr (List.Pairwise.imp (fun{a b} h z=>h (by injection z)) nd)
open PySem PySem.Spec PyProof.Rows L2
open PySem.W (Dat kqdOk)
noncomputable def minD:List Dat->Option Dat
 |[.int i,.int j]=>some (.int (if j<i then j else i))
 |_=>none
theorem F8{K:Fg}:kN K (λxs H Q=>∃i j,xs=[.int i,.int j]/\Q (.int (if j<i then j else i)) H) minD:=by
 intro H Av xs ds d Q hA r h q;unfold minD at h;split at h
 ·cases h;cases r with
  |cons r1 r2=>
   cases r2 with
   |cons r2 r3=>
    cases r3;rw[r1.fH,r2.fH];exact⟨_,_,rfl,q _ H (aO.refl H) (.int _)⟩
 ·cases h
variable {fs:ay->Option (List Dat)} in
theorem Kp(hc:X.calm=true)(hm:X.mg "min"=none)(ha:g5 X (e::es) fs)(hg:Gl X "min":=by rfl)(he:starEach (e::es) X.env=(false,eval e X.env)::starEach es X.env:=by rfl)(bW:(backTo pos (starEach es X.env)).any (·.1)=false:=by rfl):QF X (.Call (.Name "min" p) (e::es) [] pos) (dJ minD fs):=
 ⟨pj (F1 hc) F8 hm ha.o hg (by decide +kernel) (by decide) (by decide) he bW⟩
open PySem PySem.Spec PyProof.Rows L2
open PySem.W (Dat kqdOk)
noncomputable abbrev WZ:=Hp->eX->Option Addr->Hid->aD->Ends->Prop
noncomputable def tZ (K:Fg) (z:aD->Option aD) (W:WZ):TS:=λD σ H=>∃aq Av pn aQ Γ au,jy K aq Av pn aQ H σ Γ/\z Γ=some au/\W aq Av pn aQ au D
structure QZ (X:Cx) (body:List Stmt) (z:aD->Option aD) (W:WZ):Prop where
 o:iu X body (tZ X.K z W)
noncomputable def vf (g:aD->Option Fl) (z:aD->Option aD):aD->Option aD:=λΓ=>(g Γ).bind λfl=>match fl with
 | .nx au=>z au
 |_=>none
noncomputable def zEnd:aD->Option aD:=λΓ=>some Γ
noncomputable def qf (H:Hp) (a:Addr):Hp:=λb=>if b=a then none else H b
theorem kq{b:Addr}(h:b≠a):qf H a b=H b:=if_neg h
theorem sT:qf H a a=none:=if_pos rfl
theorem vq{o:HO}(h:H a=some o):upd (qf H a) a o=H:=by
 funext b
 by_cases e:b=a
 ·subst e;rw[d5,h]
 ·rw[bF e,kq e]
variable {H':Hp}
theorem aS.Vx{K:Fg}{lX:eX}{v:V}{d:Dat}(h:aS K H Av v d)(s:pM d=true):aS K H' lX v d:=by
 cases h with
 |bU=>exact .bU
 |bl b=>exact .bl b
 |int i=>exact .int i
 |str x=>exact .str x
 |tup _ _=>cases s
 |lst _ _=>cases s
variable {z:aD->Option aD} {W:WZ}
variable {g:aD->Option Fl} in
theorem jf(h:jc X st g)(h2:QZ X rest z W):QZ X (st::rest) (vf g z) W:=⟨l6 (gr h.o h2.o) λD σ H aT=>by
 obtain⟨aq,Av,pn,aQ,Γ,au,G,hz,hw⟩:=aT;obtain⟨fl,e1,hz⟩:=bind_some hz;cases fl with
 |nx Γ1=>exact⟨aq,Av,pn,aQ,Γ,_,G,e1,λbD H' G'=>⟨aq,Av,pn,aQ,Γ1,au,G',hz,hw⟩⟩
 |rt d=>cases hz
 |bk Γ1=>cases hz
 |ct Γ1=>cases hz
 |rm d Γ1=>cases hz⟩
noncomputable def LN (K:Fg) (i:Nat):WZ:=λaq Av _ _ Γ D=>∃ds,Γ[i]?=some (some (.own ds))/\∀H1 p xs,aO aq H1->H1 p=none->aF K H1 Av xs ds->D.rt (.ref p) (upd H1 p (.lst xs))
theorem MH(i:Nat)(hN:X.N[i]?=some x:=by rfl)(hv:oN X.env.scope x:=by first|exact Or.inl rfl|exact Or.inr (Or.inl rfl)|exact Or.inr (Or.inr rfl))(hd:(x==("__debug__" : Str))=false:=by decide)(gy:(x==("__classdict__" : Str))=false:=by decide):QZ X [.Return (some (.Name x p)) pos] zEnd (LN X.K i):=⟨l6 (jY (oy (nh hN hv hd gy))) λD σ H aT=>by
 obtain⟨aq,Av,pn,aQ,Γ,au,⟨ad,G⟩,hz,ds,hi,q⟩:=aT;cases hz;obtain⟨xs,g1,g2,g3,g4⟩:=G.own i ds hi;refine⟨.ref (ad i),g1,?_⟩;have key:=q (qf H (ad i)) (ad i) xs (λb o h=>by rw[kq (aU h g4)];exact G.same b o h) sT (g3.mono λb o h n=>⟨by rw[kq λz=>n (.inr ⟨i,_,hi,rfl,z.symm⟩)];exact h,λz=>n (.inl z)⟩);rw[vq g2]at key;exact key⟩
def spT (K:Fg) (aq:Hp) (Av:eX) (ds es:List Dat) (d:Dat) (Q:VK):Prop:=∀H1 a p q xs ys v,aO aq H1->H1 p=none->H1 q=none->H1 a=none->p≠q->a≠p->a≠q->aF K H1 Av xs ds->aF K H1 Av ys es->aS K H1 Av v d->Q (.ref a) (upd (upd (upd H1 p (.lst xs)) q (.lst ys)) a (.tup [.ref p,.ref q,v]))
variable {f3:ay->Option Dat}
variable {f2:ay->Option (List Dat)} in
noncomputable def LM (K:Fg) (i:Nat) (f2:ay->Option (List Dat)) (f3:ay->Option Dat):WZ:=λaq Av _ _ Γ D=>∃ds es d,Γ[i]?=some (some (.own ds))/\f2 (bo Γ)=some es/\es.all (k9 9)=true/\f3 (bo Γ)=some d/\pM d=true/\spT K aq Av ds es d D.rt
variable {e3 e2:Expr}
variable {f2:ay->Option (List Dat)} in
theorem MG(i:Nat){k1:Nat}{U2:Pos}(h2:QE X e2 (kP X.K f2))(h3:QF X e3 f3)(hN:X.N[i]?=some x:=by rfl)(hv:oN X.env.scope x:=by first|exact Or.inl rfl|exact Or.inr (Or.inl rfl)|exact Or.inr (Or.inr rfl))(hd:(x==("__debug__" : Str))=false:=by decide)(gy:(x==("__classdict__" : Str))=false:=by decide)(kc:starEach [.Name x p,e2,e3] X.env=(false,eval (.Name x p) X.env)::starEach [e2,e3] X.env:=by rfl)(We:starEach [e2,e3] X.env=(false,eval e2 X.env)::starEach [e3] X.env:=by rfl)(Wc:starEach [e3] X.env=(false,eval e3 X.env)::starEach [] X.env:=by rfl):
  QZ X [.Return (some (.Tuple [.Name x p,e2,e3] k1 U2)) pos] zEnd (LM X.K i f2 f3):=⟨l6 (jY (oy (yM (bR (nh hN hv hd gy) (bR h2.o (bR h3.o fU Wc) We) kc)))) λD σ H aT=>by
 obtain⟨aq,Av,pn,aQ,Γ,au,⟨ad,G⟩,hz,ds,es,d,hi,e2,O5,e3,Wa,q⟩:=aT;cases hz;obtain⟨xs,g1,g2,g3,g4⟩:=G.own i ds hi;refine⟨.ref (ad i),g1,Av,bo Γ,es,G.fY.same G.same,G.gE,e2,λHa qa ys s1 hq ry=>?_⟩;have sn:aO Ha (upd Ha qa (.lst ys)):=cb hq _;refine⟨Av,bo Γ,d,G.fY.same (G.same.trans (s1.trans sn)),G.gE.same (s1.trans sn),e3,λx3 H2 s2 r3=>⟨le_of_lt (bC (by show 3<=1000;decide)),λa ha=>?_⟩⟩;have jr:H2 (ad i)=some (.lst xs):=s2 _ _ (sn _ _ (s1 _ _ g2));have qE:H2 qa=some (.lst ys):=s2 _ _ d5;have El:ad i≠qa:=aU (s1 _ _ g2) hq;have Jj:a≠ad i:=(aU jr ha).symm;have Ji:a≠qa:=(aU qE ha).symm;have big:∀b o,Ha b=some o->b≠ad i->qf (qf H2 qa) (ad i) b=some o:=λb o h n=>by
  rw[kq n,kq (aU h hq)];exact s2 _ _ (sn _ _ h)
 have key:=q (qf (qf H2 qa) (ad i)) a (ad i) qa xs ys x3 (λb o h=>big b o (s1 _ _ (G.same _ _ h)) (aU h g4)) sT (by rw[kq El.symm,sT]) (by rw[kq Jj,kq Ji];exact ha) El Jj Ji
  (g3.mono λb o h n=>⟨big b o (s1 _ _ h) λz=>n (.inr ⟨i,_,hi,rfl,z.symm⟩),λz=>n (.inl z)⟩)
  ((aF.apart G s1 9 O5 ry).mono λb o h n=>⟨big b o h λz=>n (.inr ⟨i,_,hi,rfl,z.symm⟩),λz=>n (.inl z)⟩) (r3.Vx Wa)
 have e5:upd (qf (qf H2 qa) (ad i)) (ad i) (.lst xs)=qf H2 qa:=vq (by rw[kq El];exact jr);rw[e5,vq qE]at key;exact key⟩
noncomputable def Gq (N:List Str) (i:Nat) (z:aD->Option aD):List Dat->Option (List Dat):=λds=>(z (bY N ds)).bind λΓ=>match Γ[i]? with
 |some (some (.own es))=>some es
 |_=>none
variable {k:Nat} in
theorem Uo(N:List Str)(i:Nat)(U:FnAt K mg x st ps)(hbody:N.Nodup->∀(fa:Addr) (bJ:Value) (A:Around) (outer:List Env) (s:Shared) (H:Hp) (E:XK),cj k (A.deeper (envOfC x (aP st) s.heap.objs.size fa bJ))->QZ (g9 j0 P w K mg base N x (aP st) fa bJ A outer s H E).lL (d4 st) z (LN K i))(S:eh N ps (aP st):=by exact⟨rfl,rfl,rfl,by decide +kernel,rfl,by decide +kernel,by decide +kernel⟩)(hn:ps.length=n:=by rfl):sD P w K mg base (k+1) x ps n (Gq N i z):=by
 obtain⟨fa,fd,U,hm,hB⟩:=U.ex;have bW:ps.length<=N.length:=by have:=congrArg List.length S.pre;rw[length_take]at this;omega
 refine⟨fa,fd,U.ok S (λvs H Q E h=>?_) (λbJ A outer s H vs Q E hr h=>?_),hm,U.kp,hB⟩
 ·obtain⟨Av,ds,d,_,r,hl,_⟩:=h;rw[r.length,hl,hn]
 ·obtain⟨Av,ds,out,hA,r,hl,hd,q⟩:=h;obtain⟨au,e1,hd⟩:=bind_some hd;split at hd
  ·rename_i es hi;cases hd;exact⟨_,(hbody S.nd fa bJ A outer s H E hr).o,H,Av,none,[],bY N ds,au,jM hA r (by omega),e1,_,hi,λH1 p xs s1 hp r1=>q H1 p xs s1 hp r1⟩
  ·cases hd
noncomputable def Ro (K:Fg) (n:Nat) (F:List Dat->Option (List Dat×List Dat×Dat)):Sp:=λvs H Q _=>∃Av ds o,ij H Av/\aF K H Av vs ds/\ds.length=n/\F ds=some o/\spT K H Av o.1 o.2.1 o.2.2 Q
variable {k:Nat} in
structure JP (P:Program) (w:World) (K:Fg) (mg:Str->Option Value) (base:Heap) (k:Nat) (x:Str) (ps:List Str) (n:Nat) (F:List Dat->Option (List Dat×List Dat×Dat)):Prop where
 ex:∃(f:Addr) (fd:FuncData),gg P w K mg base j0 k f fd ps (Ro K n F)/\mg x=some (.ref f)/\keepIn K (.ref f)=true/\Binds K fd ps []
noncomputable def U1 (o:List Dat×List Dat×Dat):Dat:=.tuple [.list o.1,.list o.2.1,o.2.2]
theorem Gf{H1:Hp}{p q:Addr}{xs ys:List V}{v:V}{o:List Dat×List Dat×Dat}(hA:ij H1 Av)(hp:H1 p=none)(hq:H1 q=none)(ha:H1 a=none)(El:p≠q)(Jj:a≠p)(Ji:a≠q)(r1:aF K H1 Av xs o.1)(r2:aF K H1 Av ys o.2.1)(r3:aS K H1 Av v o.2.2):
  aS K (upd (upd (upd H1 p (.lst xs)) q (.lst ys)) a (.tup [.ref p,.ref q,v])) Av (.ref a) (U1 o)/\aO H1 (upd (upd (upd H1 p (.lst xs)) q (.lst ys)) a (.tup [.ref p,.ref q,v])):=by
 have s:aO H1 (upd (upd (upd H1 p (.lst xs)) q (.lst ys)) a (.tup [.ref p,.ref q,v])):=λb u h=>by
  rw[bF (aU h ha),bF (aU h hq),bF (aU h hp)];exact h
 refine⟨.tup (.inl ⟨.inl d5,hA.new ha⟩) (.cons (.lst (.inl ⟨.inl ?_,hA.new hp⟩) (r1.same s)) (.cons (.lst (.inl ⟨.inl ?_,hA.new hq⟩) (r2.same s)) (.cons (r3.same s) .nil))),s⟩
 ·rw[bF Jj.symm,bF El,d5]
 ·rw[bF Ji.symm,d5]
noncomputable def Gp (N:List Str) (i:Nat) (f2:ay->Option (List Dat)) (f3:ay->Option Dat) (z:aD->Option aD):List Dat->Option (List Dat×List Dat×Dat):=λds=>(z (bY N ds)).bind λΓ=>match Γ[i]? with
 |some (some (.own ns))=>(f2 (bo Γ)).bind λes=>(f3 (bo Γ)).bind λd=>if es.all (k9 9)=true/\pM d=true then some (ns,es,d)else none
 |_=>none
variable {k:Nat} in
theorem Um(N:List Str)(i:Nat)(U:FnAt K mg x st ps){f2:ay->Option (List Dat)}(hbody:N.Nodup->∀(fa:Addr) (bJ:Value) (A:Around) (outer:List Env) (s:Shared) (H:Hp) (E:XK),cj k (A.deeper (envOfC x (aP st) s.heap.objs.size fa bJ))->QZ (g9 j0 P w K mg base N x (aP st) fa bJ A outer s H E).lL (d4 st) z (LM K i f2 f3))(S:eh N ps (aP st):=by exact⟨rfl,rfl,rfl,by decide +kernel,rfl,by decide +kernel,by decide +kernel⟩)(hn:ps.length=n:=by rfl):JP P w K mg base (k+1) x ps n (Gp N i f2 f3 z):=by
 obtain⟨fa,fd,U,hm,hB⟩:=U.ex;have bW:ps.length<=N.length:=by have:=congrArg List.length S.pre;rw[length_take]at this;omega
 refine⟨fa,fd,U.ok S (λvs H Q E h=>?_) (λbJ A outer s H vs Q E hr h=>?_),hm,U.kp,hB⟩
 ·obtain⟨Av,ds,d,_,r,hl,_⟩:=h;rw[r.length,hl,hn]
 ·obtain⟨Av,ds,out,hA,r,hl,hd,q⟩:=h;obtain⟨au,e1,hd⟩:=bind_some hd;split at hd
  ·rename_i ns hi;obtain⟨es,e2,hd⟩:=bind_some hd;obtain⟨d,e3,hd⟩:=bind_some hd;split at hd
   ·rename_i hc;cases hd;exact⟨_,(hbody S.nd fa bJ A outer s H E hr).o,H,Av,none,[],bY N ds,au,jM hA r (by omega),e1,ns,es,d,hi,e2,hc.1,e3,hc.2,q⟩
   ·cases hd
  ·cases hd
open PySem PySem.Spec PyProof.Rows L2
open PySem.W (Dat kqdOk)
theorem sD.dn{K:Fg}{k:Nat}{F:List Dat->Option (List Dat)}(D:sD P w K mg base k x ps n F):Dn P w K mg base k x ps n (λds=>(F ds).map .list):=by
 obtain⟨f,fd,h1,h2⟩:=D.ex;refine⟨f,fd,h1.imp λvs H Q E ⟨Av,ds,d,hA,r,hl,hf,q⟩=>?_,h2⟩;obtain⟨o,e1,hf⟩:=bT hf;subst hf;exact⟨Av,ds,o,hA,r,hl,e1,λH1 p xs s hp r1=>q _ _ (s.trans (cb hp _)) (.pw (hA.same s) hp r1)⟩
end
end L3
namespace Tx
noncomputable section
open PySem PySem.StrLaws PySem.Builtin.Str
noncomputable def dig (n:Nat):List Nat:=(Nat.toDigits 10 n).map Char.toNat
theorem gP{n:Nat}(h:n<10):dig n=[48+n]:=by
 unfold dig;rw[Nat.toDigits_of_lt_base h];rcases(show n=0\/n=1\/n=2\/n=3\/n=4\/n=5\/n=6\/n=7\/n=8\/n=9 by omega)with e|e|e|e|e|e|e|e|e|e<;>subst e<;>rfl
theorem lh{n:Nat}(h:10<=n):dig n=dig (n/10)++[48+n % 10]:=by
 have e:n=10*(n/10)+n % 10:=by omega
 have:=Nat.toDigits_append_toDigits (b:=10) (n:=n/10) (d:=n % 10) (by decide) (by omega) (by omega);have hd:=gP (n:=n % 10) (by omega);unfold dig at hd ⊢;rw[<- e]at this;rw[<- this,map_append,hd]
theorem Le:∀n:Nat,NumText.digitsVal (dig n)=n:=by
 intro n;induction n using Nat.strongRecOn with
 |_ n ih=>
  by_cases h:n<10
  ·rw[gP h];show 0*10+(48+n-48)=n;omega
  ·rw[lh (by omega),NumText.digitsVal_snoc,ih (n/10) (by omega)];omega
theorem By:∀(k n:Nat),n<10^(k+1)->(dig n).length<=k+1
 |0,n,h=>by rw[gP (by simpa using h)];exact le_refl _
 |k+1,n,h=>by
  by_cases uF:n<10
  ·rw[gP uF];show 1<=_;omega
  ·rw[lh (by omega),length_append];have:=By k (n/10) (by
    have e:10^(k+1+1)=10*10^(k+1):=by rw[Nat.pow_succ,Nat.mul_comm]
    rw[e]at h;omega)
   show _+1<=_;omega
theorem zN(n:Nat):dig n≠[]:=by
 by_cases h:n<10
 ·rw[gP h];simp
 ·rw[lh (by omega)];simp
theorem Bx:∀(n c:Nat),c∈dig n->48<=c/\c<=57:=by
 intro n;induction n using Nat.strongRecOn with
 |_ n ih=>
  intro c hc;by_cases h:n<10
  ·rw[gP h]at hc;rw[mem_singleton.mp hc];omega
  ·rw[lh (by omega)]at hc;rcases mem_append.mp hc with z|z
   ·exact ih (n/10) (by omega) c z
   ·rw[mem_singleton.mp z];omega
theorem Hy:∀n:Nat,1<=n->∃c r,dig n=c::r/\c≠48:=by
 intro n;induction n using Nat.strongRecOn with
 |_ n ih=>
  intro h1;by_cases h:n<10
  ·exact⟨48+n,[],gP h,by omega⟩
  ·obtain⟨c,r,e,hc⟩:=ih (n/10) (by omega) (by omega);exact⟨c,r++[48+n % 10],by rw[lh (by omega),e];rfl,hc⟩
noncomputable def bB (c:Nat):List Nat->List (List Nat)
 |[]=>[[]]
 |a::l=>if a=c then[]::bB c l else match bB c l with
  |[]=>[[a]]
  |h::t=>(a::h)::t
theorem iO(c:Nat):∀l,bB c l≠[]
 |[]=>by simp[bB]
 |a::l=>by
  unfold bB;split
  ·simp
  ·split<;>simp
theorem ix(c:Nat):∀(t r:List Nat),c∉t->∃h q,bB c r=h::q/\bB c (t++r)=(t++h)::q
 |[],r,_=>by
  cases e:bB c r with
  |nil=>exact absurd e (iO c r)
  |cons h q=>exact⟨h,q,rfl,e⟩
 |a::t,r,hn=>by
  obtain⟨h,q,e1,e2⟩:=ix c t r λz=>hn (mem_cons_of_mem _ z);refine⟨h,q,e1,?_⟩;show bB c (a::(t++r))=_;unfold bB;rw[if_neg λz=>hn (by rw[z];exact mem_cons_self),e2];rfl
theorem gF(c:Nat)(t r:List Nat)(h:c∉t):bB c (t++c::r)=t::bB c r:=by
 obtain⟨u,q,e1,e2⟩:=ix c t (c::r) h;have e3:bB c (c::r)=[]::bB c r:=if_pos rfl;rw[e3]at e1;cases e1;rw[e2,append_nil]
theorem fB(c:Nat)(t:List Nat)(h:c∉t):bB c t=[t]:=by
 obtain⟨u,q,e1,e2⟩:=ix c t [] h;cases e1;rw[append_nil]at e2;exact e2
noncomputable abbrev ic (c:Nat):Str:=⟨#[c]⟩
theorem lj(x:Str)(c k:Nat):At x (ic c) x.length k↔∃r,(tl x).drop k=c::r:=by
 unfold At;rw[subAt_eq];constructor
 ·rintro⟨_,h⟩;have h:=eq_of_beq h;have h2:((tl x).drop k).take 1=[c]:=h;cases e:(tl x).drop k with
  |nil=>rw[e]at h2;cases h2
  |cons a l=>
   rw[e]at h2;have h3:[a]=[c]:=h2;cases h3;exact⟨l,rfl⟩
 ·rintro⟨r,h⟩;have hl:=congrArg List.length h;rw[length_drop]at hl;have hn:(tl x).length=x.length:=by simp[Str.length]
  simp only[length_cons]at hl;refine⟨by show k+1<=x.length;omega,?_⟩;rw[h];show([c] == [c])=true;exact beq_self_eq_true _
theorem lP(x:Str)(c:Nat):∀(n a:Nat),a+n<=x.length->(∀k,a<=k->k<a+n->¬At x (ic c) x.length k)->c∉((tl x).drop a).take n
 |0,a,_,_=>by simp
 |n+1,a,hl,hn=>by
  have hlen:(tl x).length=x.length:=by simp[Str.length]
  have ha:a<(tl x).length:=by omega
  have h0:=hn a (le_refl _) (by omega);rw[lj]at h0;have ih:=lP x c n (a+1) (by omega) λk h1 h2=>hn k (by omega) (by omega);have e:(tl x).drop a=(tl x)[a]::(tl x).drop (a+1):=List.drop_eq_getElem_cons ha;rw[e]at h0 ⊢;rw[List.take_succ_cons];intro z;rcases mem_cons.mp z with z|z
  ·exact h0 ⟨_,by rw[z]⟩
  ·exact ih z
theorem wd(x:Str)(c:Nat):∀(zR:List Nat) (a f:Nat),a<=x.length->ChainG x (ic c) x.length a zR f->(∀k,f<=k->¬At x (ic c) x.length k)->(partsFrom x 1 a zR).map tl=bB c ((tl x).drop a)
 |[],a,f,hl,h,hn=>by
  have e:f=a:=h;subst e;have hlen:(tl x).length=x.length:=by simp[Str.length]
  have kS:=lP x c (x.length-f) f (by omega) λk h1 _=>hn k h1;rw[take_of_length_le (by rw[length_drop];omega)]at kS;rw[fB c _ kS];show[(strSub x f x.length).cps.toList]=_;have QL:x.cps.toList.length=x.length:=hlen;rw[strSub_toList,take_of_length_le (by rw[length_drop];omega)]
 |d::r,a,f,hl,h,hn=>by
  obtain⟨h1,h2,h3,h4⟩:=h;have hc:d+1<=x.length:=h2.1;have ih:=wd x c r (d+1) f hc h4 hn;show tl (strSub x a d)::(partsFrom x 1 (d+1) r).map tl=_;rw[ih];have kS:=lP x c (d-a) a (by omega) λk k1 k2=>h3 k k1 (by omega);obtain⟨q,hq⟩:=(lj x c d).mp h2;have qE:(tl x).drop (d+1)=q:=by
   have:=congrArg (List.drop 1) hq;rw[drop_drop]at this;exact this
  have e:(tl x).drop a=((tl x).drop a).take (d-a)++c::q:=by
   rw[<- hq];have:=List.take_append_drop (d-a) ((tl x).drop a);rw[drop_drop,show a+(d-a)=d by omega]at this;exact this.symm
  show(strSub x a d).cps.toList::_=_;rw[strSub_toList,qE];conv=>rhs;rw[e]
  rw[gF c _ _ kS]
theorem Qy{c:Nat}(h:c<256)(x:Str):(decide (Builtin.Str.strKind x<Builtin.Str.strKind (ic c)))=false:=by
 have e:Builtin.Str.strKind (ic c)=1:=by
  unfold Builtin.Str.strKind;rw[if_pos (by simp[h])]
 rw[e];refine decide_eq_false ?_;unfold Builtin.Str.strKind;split
 ·omega
 ·split<;>omega
theorem lG{c:Nat}(h:c<256)(x:Str):(Txt.split x (ic c)).map tl=bB c (tl x):=by
 obtain⟨f,hG,hn⟩:=occ_tight x (ic c) (show 1<=1 by decide);have key:=wd x c _ 0 f (zero_le _) hG hn;rw[drop_zero]at key;unfold Txt.split;rw[Qy h,Bool.or_false];by_cases h0:x.length<1
 ·have e:tl x=[]:=by
   have:(tl x).length=x.length:=by simp[Str.length]
   exact length_eq_zero_iff.mp (by omega)
  rw[decide_eq_true (show x.length<(ic c).length from h0),if_pos rfl];show[tl x]=_;rw[e];rfl
 ·rw[decide_eq_false (show ¬x.length<(ic c).length from h0),if_neg Bool.false_ne_true];cases he:(occurrences x (ic c) 0 x.length (x.length+1)).isEmpty
  ·rw[if_neg Bool.false_ne_true,partsBetween_eq];exact key
  ·rw[if_pos rfl];rw[List.isEmpty_iff.mp he]at key;rw[<- key];show[tl x]=[tl (strSub x 0 x.length)];rw[sub_whole]
noncomputable def rm (l:List Nat):List Nat:=l.flatMap λa=>if a=45 then[43,45]else[a]
theorem yz(a b:List Nat):rm (a++b)=rm a++rm b:=List.flatMap_append
theorem mI:∀t:List Nat,45∉t->rm t=t
 |[],_=>rfl
 |a::t,h=>by
  show(if a=45 then[43,45]else[a])++rm t=_;rw[if_neg λz=>h (by rw[z];exact mem_cons_self),mI t λz=>h (mem_cons_of_mem _ z)];rfl
theorem yv(x:Str):∀(zR:List Nat) (a f:Nat),a<=x.length->ChainG x (ic 45) x.length a zR f->(∀k,f<=k->¬At x (ic 45) x.length k)->tl (Str.join CN (partsFrom x 1 a zR))=rm ((tl x).drop a)
 |[],a,f,hl,h,hn=>by
  have e:f=a:=h;subst e;have hlen:(tl x).length=x.length:=by simp[Str.length]
  have kS:=lP x 45 (x.length-f) f (by omega) λk h1 _=>hn k h1;rw[take_of_length_le (by rw[length_drop];omega)]at kS;rw[mI _ kS];show(strSub x f x.length).cps.toList=_;have QL:x.cps.toList.length=x.length:=hlen;rw[strSub_toList,take_of_length_le (by rw[length_drop];omega)]
 |d::r,a,f,hl,h,hn=>by
  obtain⟨h1,h2,h3,h4⟩:=h;have hc:d+1<=x.length:=h2.1;obtain⟨p,q,e⟩:=partsFrom_ne x 1 (d+1) r;have ih:=yv x r (d+1) f hc h4 hn;show tl (Str.join CN (strSub x a d::partsFrom x 1 (d+1) r))=_;rw[e]at ih ⊢;show tl (strSub x a d++CN++Str.join CN (p::q))=_;have kS:=lP x 45 (d-a) a (by omega) λk k1 k2=>h3 k k1 (by omega);obtain⟨q',hq⟩:=(lj x 45 d).mp h2;have qE:(tl x).drop (d+1)=q':=by
   have:=congrArg (List.drop 1) hq;rw[drop_drop]at this;exact this
  have e':(tl x).drop a=((tl x).drop a).take (d-a)++45::q':=by
   rw[<- hq];have:=List.take_append_drop (d-a) ((tl x).drop a);rw[drop_drop,show a+(d-a)=d by omega]at this;exact this.symm
  rw[aR,aR,ih,qE];show(strSub x a d).cps.toList++[43,45]++rm q'=_;rw[strSub_toList];conv=>rhs;rw[e']
  rw[yz,mI _ kS];show _=_++([43,45]++rm q');rw[append_assoc]
theorem lH(x:Str):tl (Txt.replace x (ic 45) CN)=rm (tl x):=by
 obtain⟨f,hG,hn⟩:=occ_tight x (ic 45) (show 1<=1 by decide);have key:=yv x _ 0 f (zero_le _) hG hn;rw[drop_zero]at key;have uF:((ic 45).length==0)=false:=rfl;unfold Txt.replace;rw[uF,Bool.false_and,Bool.or_false];cases he:(occurrences x (ic 45) 0 x.length (x.length+1)).isEmpty
 ·rw[if_neg Bool.false_ne_true,glued_eq_join,partsBetween_eq];exact key
 ·rw[if_pos rfl];rw[List.isEmpty_iff.mp he]at key;rw[<- key];show tl x=tl (strSub x 0 x.length);rw[sub_whole]
theorem L7:∀c,c<128->(!(occurrences (Str.ofString "abcdefghijklmnopqrstuvwxyz") ⟨#[c]⟩ 0 (Str.ofString "abcdefghijklmnopqrstuvwxyz").length 1).isEmpty)=decide (97<=c/\c<=122):=by decide +kernel
theorem L8:∀c,c<128->(!(occurrences (Str.ofString "0123456789") ⟨#[c]⟩ 0 (Str.ofString "0123456789").length 1).isEmpty)=decide (48<=c/\c<=57):=by decide +kernel
theorem K4(x:Str)(c:Nat):(decide (0+(ic c).length<=x.length)&&subAt x (ic c) 0)=((tl x).head? == some c):=by
 have hi:=lj x c 0;rw[drop_zero]at hi;rw[Bool.eq_iff_iff,and_eq_true,decide_eq_true_eq];refine Iff.trans hi ?_;cases tl x with
 |nil=>
  constructor
  ·rintro⟨r,h⟩;cases h
  ·intro h;cases h
 |cons a l=>
  constructor
  ·rintro⟨r,h⟩;cases h;exact beq_self_eq_true _
  ·intro h;have h:=eq_of_beq h;cases h;exact⟨l,rfl⟩
end
end Tx
namespace L3
noncomputable section
open PySem PySem.Spec PyProof.Rows L2
structure Fly (P:Program) (w:World) (outer:List Env) (H H':Hp) (s s':Shared) (B:Heap) (a:Addr) (cls a0:Value):Prop where
 os:s'.os=s.os
 bare:AllBare s'.gens
 cov:∀b o,s.heap.get? b=some o->H b=none->b∉frs outer->B.get? b=some o
 slot:∀b o,s.heap.get? b=some o->H b=none->b∈frs outer->∃sl,s'.heap.get? b=some {o with slots:=sl}
 free:∀b o,s.heap.get? b=some o->H b=none->H' b=none
 there:∀b o,s.heap.get? b=some o->b∉frs outer->∃o',B.get? b=some o'
 tups:∀b xs,H b=some (.tup xs)->H' b=some (.tup xs)
 frzs:∀b o u,H b=some (.jt o u)->H' b=some (.jt o u)
 tbls:∀b ps,H b=some (.mj ps)->∃more,H' b=some (.mj (ps++more))
 hok:gA P w H' B
 fly:FlyingW B outer a cls a0 s'.heap
noncomputable def CXF (P:Program) (w:World):pT:=λouter H s E e s'=>∃a cls a0 H' B,e=.ref a/\Fly P w outer H H' s s' B a cls a0/\E cls none H'
variable {cls a0:Value} {H H':Hp} {w:World} {a:Addr} {s':Shared} {B:Heap} {outer:List Env} {P:Program}
variable {s:Shared} in
theorem Fly.un(F:Fly P w outer H H' s s' B a cls a0):Un (frs outer) [] H H' s.heap s'.heap where
 keep:=λb o q n hb _=>F.fly.1 b o (F.cov b o q n hb)
 slot:=λb o q n hb _=>F.slot b o q n hb
 free:=λb o q n _=>F.free b o q n
 there:=λb o q _=>by
  by_cases hb:b∈frs outer
  ·obtain⟨_,o',ho,_⟩:=F.fly.2.2.1.mem hb;exact⟨o',ho⟩
  ·obtain⟨o',ho⟩:=F.there b o q hb;exact⟨o',F.fly.1 b o' ho⟩
 tups:=F.tups
 frzs:=F.frzs
 tbls:=F.tbls
variable {s:Shared} in
theorem Fly.ok(F:Fly P w outer H H' s s' B a cls a0):gA P w H' s'.heap:=F.hok.kept F.fly.1
structure Xe (X:Cx) (E:XK):Prop where
 stk:X.stack=X.env::X.outer
 fr:X.env.frame=some X.env.locals
 ex:X.ex=[]
 xe:∀e s',wpAny (model X.prog X.w) X.A (leaving X.env e) (λ_ jB=>CXF X.prog X.w X.outer X.aq X.aC E e jB) (λe' jB=>CXF X.prog X.w X.outer X.aq X.aC E e' jB) s'->X.xe e s'
variable {X:Cx} {E:XK}
theorem Xe.frs(hX:Xe X E):frs X.stack=X.env.locals::frs X.outer:=by unfold L2.frs;rw[hX.stk,filterMap_cons,hX.fr]
variable {pins:List (Addr×Obj)} {σ:L2.St} {h':Heap}
variable {s:Shared} in
theorem _root_.L2.Inv.flyOn(I:Inv X pins σ H s)(hX:Xe X E)(hc:∀b o,s.heap.get? b=some o->H b=none->b∉L2.frs X.stack->B.get? b=some o)(hf:∀b o,s.heap.get? b=some o->H b=none->H' b=none)(ht:∀b o,s.heap.get? b=some o->b∉L2.frs X.stack->∃o',B.get? b=some o')(t1:∀b xs,H b=some (.tup xs)->H' b=some (.tup xs))(t2:∀b o u,H b=some (.jt o u)->H' b=some (.jt o u))(t3:∀b ps,H b=some (.mj ps)->∃more,H' b=some (.mj (ps++more)))(hk:gA X.prog X.w H' B){os gens}(eo:os=s.os)(eg:AllBare gens){dr tk}(sl:∀b o,s.heap.get? b=some o->H b=none->b∈L2.frs X.outer->∃sl,h'.get? b=some {o with slots:=sl})(fl:FlyingW B X.outer a cls a0 h'):Fly X.prog X.w X.outer X.aq H' X.aC ⟨h',gens,dr,tk,os⟩ B a cls a0:=by
 have nx:∀b,b∉X.ex:=λb=>by rw[hX.ex];simp
 have DW:∀b o,X.aC.heap.get? b=some o->b∉L2.frs X.outer->b∉L2.frs X.stack:=λb o e n hb=>by
  rw[hX.frs]at hb;rcases mem_cons.mp hb with z|z
  ·have:=lt_of_lt_of_le (lt_size e) I.ok.above;rw[z]at this;exact absurd this (lt_irrefl _)
  ·exact n z
 refine⟨eo.trans I.os,eg,λb o e n hb=>?_,λb o e n hb=>?_,λb o e n=>?_,λb o e hb=>?_,λb xs e=>t1 b xs (I.base.tups b xs e),λb o u e=>t2 b o u (I.base.frzs b o u e),λb ps e=>?_,hk,fl⟩
 ·exact hc b o (I.base.keep b o e n hb (nx b)) (I.base.free b o e n (nx b)) (DW b o e hb)
 ·obtain⟨Rx,e1⟩:=I.base.slot b o e n hb (nx b);obtain⟨qd,e2⟩:=sl b _ e1 (I.base.free b o e n (nx b)) hb;exact⟨qd,e2⟩
 ·obtain⟨o',e1⟩:=I.base.there b o e (nx b);exact hf b o' e1 (I.base.free b o e n (nx b))
 ·obtain⟨o',e1⟩:=I.base.there b o e (nx b);exact ht b o' e1 (DW b o e hb)
 ·obtain⟨m1,e1⟩:=I.base.tbls b ps e;obtain⟨m2,e2⟩:=t3 b _ e1;exact⟨m1++m2,by rw[e2,Array.append_assoc]⟩
variable {s:Shared} in
theorem _root_.L2.Inv.notF(I:Inv X pins σ H s){b:Addr}{o:Obj}(e:s.heap.get? b=some o)(hb:b∈L2.frs X.outer):∀vs,o.data≠.fields vs:=by
 obtain⟨_,o',ho,hd⟩:=I.la.mem hb;rw[e]at ho;cases ho;exact hd
variable {s:Shared} in
theorem _root_.L2.Inv.flies(I:Inv X pins σ H s)(hX:Xe X E)(F:Fly X.prog X.w X.stack H H' s s' B a cls a0)(hE:E cls none H'):X.xe (.ref a) s':=by
 refine hX.xe _ _ ?_;refine wpAny_leaves_onW (by rw[I.ok.frames,hX.stk]) hX.fr (hX.stk▸F.fly) λh' fl up=>?_;refine⟨a,cls,a0,H',B,rfl,?_,hE⟩;obtain⟨hp,g,d,t,os⟩:=s';refine I.flyOn hX F.cov F.free F.there F.tups F.frzs F.tbls F.hok F.os F.bare (λb o e n hb=>?_) fl;have hm:b∈L2.frs X.stack:=by rw[hX.frs];exact mem_cons_of_mem _ hb
 obtain⟨Rx,e1⟩:=F.slot b o e n hm;obtain⟨qd,e2⟩:=up b _ e1 (λvs q=>I.notF e hb vs q);exact⟨qd,e2⟩
theorem passF(hX:Xe X E):Passes (CXF X.prog X.w) X E:=λpins σ H s e s' I h=>by
 obtain⟨a,cls,a0,H',B,rfl,F,hE⟩:=h;exact I.flies hX F hE
variable {s:Shared} in
theorem _root_.L2.Inv.raised(I:Inv X pins σ H s)(hX:Xe X E){e:Addr}{args:List Value}(M:Heap.MadeExcOf s.heap h' e cls args)(hE:E cls none H):X.xe (.ref e) {s with heap:=h'}:=by
 refine hX.xe _ _ ?_;have gw:=I.stack;have WA:∀env∈X.stack,∀b,env.frame=some b->b∈L2.frs X.stack:=λenv he b hb=>mem_filterMap.mpr ⟨env,he,hb⟩;have K0:=PySem.W.funFrames_hide gw WA;have K1:s.heap.FunFrames (hideAll s.heap (L2.frs X.stack)) (X.env::X.outer):=by
  generalize hideAll s.heap (L2.frs X.stack)=G at K0 ⊢;rw[<- hX.stk];exact K0
 refine wpAny_leaves_madeW (base:=hideAll s.heap (L2.frs X.stack)) (h:=s.heap) (by rw[I.ok.frames,hX.stk]) hX.fr (λb o q=>of_hideAll _ q) K1 M λh2 t fl _ _ up=>?_;refine⟨e,cls,.ref t,H,hideAll s.heap (L2.frs X.stack),rfl,?_,hE⟩;obtain⟨hp,g,d,tk,os⟩:=s;refine I.flyOn hX (λb o q _ hb=>hideAll_get _ q hb) (λ_ _ _ n=>n) (λb o q hb=>⟨o,hideAll_get _ q hb⟩) (λ_ _ q=>q) (λ_ _ _ q=>q) (λ_ ps q=>⟨#[],by rw[q];simp⟩) (λb o q=>?_) rfl I.bare (λb o q n hb=>?_) fl
 ·refine(I.hok b o q).mW (λc u hc r=>hideAll_get _ r λhm=>?_) (λ_ z=>z) λ_ _ z=>z;have:=I.rj c hm;rcases hc with rfl|hc
  ·rw[q]at this;cases this
  ·rw[hc]at this;cases this
 ·obtain⟨sl,e2⟩:=up b o (M.keeps b o q) (I.notF q hb);exact⟨sl,e2⟩
open PySem PySem.Spec PyProof.Rows L2
noncomputable abbrev veM:List Value:=[.type "ValueError",.type "Exception",.type "BaseException",.type "object"]
structure Ec (K:PySem.W.Frag) (mg:Str->Option Value) (x:Str) (C:Addr):Prop where
 mg:mg x=some (.ref C)
 q:excIn K C veM "ValueError.__new__"=true
variable {mg:Str->Option Value} {x:Str} {C:Addr} {h:Heap}
theorem Ec.obj{K:PySem.W.Frag}(O:Ec K mg x C)(X:K.In h):∃bm N nm q bs hdct sn sub ab col dd k0 k1 k2 k3 k5 mN,
  h.get? C=some (excClassObj nm q C N bs bm hdct sn sub ab col dd k0 k1 k2 k3 k5 "ValueError.__new__")/\h.Ns N mN/\mN "__init__"=none/\OwnTail h veM bm:=by
 have q:=O.q;unfold excIn at q;split at q
 ·rename_i dd cd sl ho;split at q
  ·rename_i C' bm k0 k1 k2 k3 n k5 hm hs;simp only[and_eq_true,beq_iff_eq,Bool.not_eq_true']at q;obtain⟨⟨⟨⟨⟨rfl,rfl⟩,O8⟩,ht⟩,hok⟩,En⟩:=q;obtain⟨nm,bs,mro,ns,qn,hd,sn,sub,ab,col,del⟩:=cd;dsimp only at hm O8 hok En;subst hm O8;have wL:sl=#[k0,k1,k2,k3,some (.builtin "ValueError.__new__"),k5]:=by
    obtain⟨l⟩:=sl;simp only at hs;rw[hs]
   subst wL;exact⟨bm,ns,nm,qn,bs,hd,sn,sub,ab,col,dd,k0,k1,k2,k3,k5,_,X _ _ ho,.of_isNs (PySem.W.isNs_of_in X hok),PySem.W.nsMap_none_of_in X hok En,PySem.W.tail_of_in X ht⟩
  ·cases q
 ·cases q
variable {t:TA}
noncomputable def tRaise (C:Addr) (E:XK) (t:TA):TS:=λ_ σ H=>t σ H λvs H1=>vs.length<=sizeLine/\E (.ref C) none H1
variable {gc np pos:Pos} {e:Expr} {es:List Expr}
theorem ps_raise(hX:Xe X E)(hc:X.calm=true)(O:Ec X.K X.mg x C)(hg:Gl X x)(ha:PA X (e::es) t)(hd:(x==("__debug__" : Str))=false:=by decide)(he:starEach (e::es) X.env=(false,eval e X.env)::starEach es X.env:=by rfl)(bW:(backTo gc (starEach es X.env)).any (·.1)=false:=by rfl):
  PS X (.Raise (some (.Call (.Name x np) (e::es) [] gc)) none pos) (tRaise C E t):=by
 intro pins s σ H D I h;obtain⟨tl,N,nm,q,bs,hdct,sn,sub,ab,col,dd,k0,k1,k2,k3,k5,mN,hC,hN,En,T⟩:=O.obj I.mod.zg;refine wpAny_Raise_call_subT (C:=C) (nm:=nm) (q:=q) (N:=N) (bs:=bs) (bm:=tl) (hdct:=hdct) (sn:=sn) (sub:=sub) (ab:=ab) (col:=col) (dd:=dd) (k0:=k0) (k1:=k1) (k2:=k2) (k3:=k3) (k5:=k5)
  excBase_ValueError (mN:=mN) (T.hasType excBase_ValueError.hasBase) (I.ok.hd hc) (by rw[he];show(false || (backTo gc (starEach es X.env)).any (·.1))=false;rw[bW];rfl) En (mQ I hg O.mg ⟨rfl,?_⟩ hd)
 have h1:=ha gc pins s σ H _ I h;rw[he]at h1 ⊢;refine Calls.evalArgs_plain (wpAny_mono h1 (λus s2 h2=>?_) λ_ _ y=>y);obtain⟨vs,H2,I2,r2,hl,hE⟩:=h2;exact⟨rfl,by rw[<- r2.length];exact hl,I2.bk _ _ hC,hN.keeps I2.bk,T.keeps I2.bk,λh' e M=>I2.raised hX M hE⟩
noncomputable def tFmt (a b:Str) (te:TE):TE:=λσ H Q=>(Str.empty++a).length<=sizeLine/\te σ H λv H1=>∃i:Int,v=.int i/\i.natAbs.log2<1920/\(Str.empty++a++toString i).length<=sizeLine/\(Str.empty++a++toString i++b).length<=sizeLine/\Q (.str (Str.empty++a++toString i++b)) H1
variable {te:TE}
theorem pe_fmt{a b:Str}{j1 j2 p1 p2 p3 pos}(h:PE X e te):PE X (.JoinedStr [.Constant (.str a) j1 p1,.FormattedValue e (-1) none p2,.Constant (.str b) j2 p3] pos) (tFmt a b te):=by
 intro pins s σ H Q I ⟨z,h1⟩;refine JoinedStr_many (joinParts_cons (Calls.Constant_str ⟨z,joinParts_cons (FormattedValue_plain (bP (h pins _ σ H _ (I.tok _) h1) λv s2 ⟨x,H1,I1,r1,i,e1,b1,b2,b3,q⟩=>?_))⟩));subst e1;obtain⟨t,rfl⟩:=r1;refine formatField_int_small b1 ⟨b2,joinParts_cons (Calls.Constant_str ⟨b3,joinParts_nil ?_ b3⟩)⟩;exact⟨.str _,H1,((I1.tok _).tok _).tok _,⟨_,rfl⟩,q⟩
open PySem PySem.Spec PyProof.Rows L2
variable {oe:Obj}
noncomputable abbrev Xs (X:Cx) (a:Addr) (oe:Obj):Cx:={X with A:=X.A.mark (some (.ref a)),calm:=false,pn:=(a,oe)::X.pn,xe:=λ_ _=>False}
variable {s:Shared} in
theorem inv_suite(I:L2.Inv X pins σ H s)(he:s.heap.get? a=some oe)(hn:H a=none)(hl:a≠X.env.locals)(hf:a∉X.fs)(hd:∀v,oe.data≠.cell v):L2.Inv (Xs X a oe) pins σ H s:=by
 obtain⟨⟨a1,a2,a3,a4,a5,a6,a7,a8,a9,FK,FJ,FI,FH,FG,FF,FE,FD,FC⟩,b1,b2,b3,b4,b5,b6,b7,b8,b9,uR⟩:=I;refine⟨⟨a1,a2,a3,a4,a5,a6,a7,a8,λz=>(by cases z),FK,FJ,FI,FH,FG,FF,FE,FD,FC⟩,b1,b2,b3,b4,b5,b6,b7,λp hp=>?_,b9,uR⟩;rcases mem_cons.mp (show p∈(a,oe)::(X.pn++pins)from hp)with rfl|hp
 ·exact⟨he,hn,hl,hf,hd⟩
 ·exact b8 p hp
variable {s:Shared} in
theorem inv_back(ok:X.Ok):L2.Inv (Xs X a oe) pins σ H s->L2.Inv X pins σ H s
 |⟨_,b1,b2,b3,b4,b5,b6,b7,b8,b9,uR⟩=>⟨ok,b1,b2,b3,b4,b5,b6,b7,λp hp=>b8 p (mem_cons_of_mem _ hp),b9,uR⟩
variable {s:Shared} in
theorem inv_none(I:L2.Inv X pins σ H s):L2.Inv X pins (List.replicate X.N.length none) H s:=by
 obtain⟨b0,b1,b2,b3,⟨m,hm,_⟩,b5,b6,b7,b8,b9,uR⟩:=I;refine⟨b0,b1,b2,b3,⟨m,hm,λi x v _ h2 _=>?_⟩,b5,b6,b7,b8,b9,List.length_replicate⟩;rw[List.getElem?_replicate]at h2;split at h2<;>cases h2
variable {s:Shared} in
theorem Fly.up(F:Fly P w outer H H' s s' B a cls a0)(J3:∀b∈frs outer,∀o,s.heap.get? b=some o->∀vs,o.data≠.fields vs)(fl:FlyingW B outer a cls a0 h')(up:s'.heap.UpToSlots h'):Fly P w outer H H' s {s' with heap:=h'} B a cls a0:=
 ⟨F.os,F.bare,F.cov,λb o e n hb=>by
  obtain⟨s1,e1⟩:=F.slot b o e n hb;obtain⟨s2,e2⟩:=up b _ e1 (λvs q=>J3 b hb o e vs q);exact⟨s2,e2⟩,F.free,F.there,F.tups,F.frzs,F.tbls,F.hok,fl⟩
theorem obj_there{o:HO}(x:iJ P w H h a o):∃u,h.get? a=some u:=by
 cases o with
 |lst=>exact let ⟨_,_,_,_,e⟩:=x;⟨_,e⟩
 |tup=>exact let ⟨_,_,_,u,e,_⟩:=x;⟨u,e⟩
 |dK=>exact let ⟨_,_,_,_,u,_,_,e,_⟩:=x;⟨u,e⟩
 |dT=>exact let ⟨_,_,_,_,u,_,_,e,_⟩:=x;⟨u,e⟩
 |set=>exact let ⟨u,_,_,_,e,_⟩:=x;⟨u,e⟩
 |ins=>exact let ⟨_,_,_,e,_⟩:=x;⟨_,e⟩
 |own=>exact x
 |xd=>exact let ⟨_,⟨u,_,_,e,_⟩,_⟩:=x;⟨u,e⟩
 |Ir=>exact let ⟨_,_,_,e⟩:=x;⟨_,e⟩
 |jt=>exact⟨_,x.1⟩
 |mj=>exact⟨_,x⟩
 |met=>exact⟨_,x⟩
 |ext=>exact x.2.1
variable {s:Shared} in
theorem Fly.nt(F:Fly P w outer H H' s s' B a cls a0):H' a=none:=by
 cases q:H' a with
 |none=>rfl
 |some u=>
  obtain⟨v,e⟩:=obj_there (F.hok a u q);rw[F.fly.2.1]at e;cases e
noncomputable abbrev Xt (X:Cx) (f:Value->Shared->Prop) (p:List (Addr×Obj)):Cx:={X with xe:=f,pn:=p}
variable {s:Shared} in
theorem inv_t{f:Value->Shared->Prop}:L2.Inv X pins σ H s->L2.Inv (Xt X f (X.pn++pins)) [] σ H s
 |⟨⟨a1,a2,a3,a4,a5,a6,a7,a8,a9,FK,FJ,FI,FH,FG,FF,FE,FD,FC⟩,b1,b2,b3,b4,b5,b6,b7,b8,b9,uR⟩=>
  ⟨⟨a1,a2,a3,a4,a5,a6,a7,a8,a9,FK,FJ,FI,FH,FG,FF,FE,FD,FC⟩,b1,b2,b3,b4,b5,b6,b7,λp hp=>b8 p (by rwa[append_nil]at hp),b9,uR⟩
variable {s:Shared} in
theorem inv_tb{f:Value->Shared->Prop}{p1:List (Addr×Obj)}:L2.Inv (Xt X f (X.pn++pins)) p1 σ H s->L2.Inv X pins σ H s
 |⟨⟨a1,a2,a3,a4,a5,a6,a7,a8,a9,FK,FJ,FI,FH,FG,FF,FE,FD,FC⟩,b1,b2,b3,b4,b5,b6,b7,b8,b9,uR⟩=>
  ⟨⟨a1,a2,a3,a4,a5,a6,a7,a8,a9,FK,FJ,FI,FH,FG,FF,FE,FD,FC⟩,b1,b2,b3,b4,b5,b6,b7,λp hp=>b8 p (mem_append_left _ hp),b9,uR⟩
variable {i:Nat}
variable {s:Shared} in
theorem inv_gone{n:Str}{m:Str->Option Value}{v:Option Value}{t:Nat}(I:L2.Inv X pins σ H s)(hN:X.N.Nodup)(hi:X.N[i]?=some n)(hm:∀(i:Nat) (x:Str) (v:V),X.N[i]?=some x->σ[i]?=some (some v)->oN X.env.scope x->∃u,RelV v u/\Look X.env s.heap m x u)(hn:h'.Ns X.env.locals (λx=>if x=n then v else m x))(hs:SameBut X.env.locals s.heap h'):L2.Inv X pins (σ.set i none) H {s with heap:=h',toks:=t}:=by
 have Nl:∀b o,X.aC.heap.get? b=some o->b≠X.env.locals:=λb o e z=>by
  have:=lt_of_lt_of_le (lt_size e) I.ok.above;rw[z]at this;exact absurd this (lt_irrefl _)
 have cellK:∀x c w,X.env.cells.lookup x=some c->s.heap.IsCell c w->h'.IsCell c w:=λx c w hc ⟨o,ho,hd⟩=>⟨o,(hs.2 c (I.wZ x c hc)).trans ho,hd⟩;refine⟨I.ok,I.os,I.bare,?_,⟨_,hn,λj x vv hj hv hx=>?_⟩,λx c hc=>?_,I.free,I.jq,λp hp=>?_,λb o e=>?_,by rw[length_set];exact I.len⟩
 ·have u:=I.base;exact⟨λb o e n hb hx=>(hs.2 b (Nl b o e)).trans (u.keep b o e n hb hx),λb o e n hb hx=>let ⟨sl,q⟩:=u.slot b o e n hb hx;⟨sl,(hs.2 b (Nl b o e)).trans q⟩,u.free,
   λb o e hx=>let ⟨o',q⟩:=u.there b o e hx;⟨o',(hs.2 b (Nl b o e)).trans q⟩,u.tups,u.frzs,u.tbls⟩
 ·have RZ:i≠j:=λz=>by
   subst z;rw[List.getElem?_set]at hv;split at hv
   ·split at hv<;>cases hv
   ·rename_i q;exact q rfl
  rw[getElem?_set_ne RZ]at hv;obtain⟨u,r,L⟩:=hm j x vv hj hv hx;have VZ:x≠n:=λz=>by
   subst z;have l1:=(List.getElem?_eq_some_iff.mp hi);have l2:=(List.getElem?_eq_some_iff.mp hj);exact RZ ((List.getElem_inj hN).mp (l1.2.trans l2.2.symm))
  refine⟨u,r,?_⟩;rcases L with⟨k,e⟩|⟨k,c,hc,hw⟩
  ·exact .inl ⟨k,by show(if x=n then v else m x)=_<;>rw[if_neg VZ];exact e⟩
  ·exact .inr ⟨k,c,hc,cellK x c _ hc hw⟩
 ·obtain⟨w,hw⟩:=I.cell x c hc;exact⟨w,cellK x c w hc hw⟩
 ·obtain⟨e,r⟩:=I.pin p hp;exact⟨(hs.2 p.1 r.2.1).trans e,r⟩
 ·refine(I.hok b o e).mW (λc u hc q=>(hs.2 c λz=>?_).trans q) (λ_ q=>q) λ_ _ q=>q;have f:=I.free;rcases hc with rfl|hc
  ·rw[<- z,e]at f;cases f
  ·rw[<- z,hc]at f;cases f
variable {Ub Pb XY:List Value} {l1 l3 l0 l2 l5:Option Value} {Y3 QN:Bool} {Nk:String} {N2:Addr} {V2:Option Bool} {VI q2:Str} {wX:Option Addr} {E:Value->Shared->Prop} {A:Around} {M:Model} {Vu:List Str}
variable {S:Addr} in
theorem matches_par{g:Array GenState}{d:Drawn}{t:Nat}{os:OsState}{e:Addr}{Q:Bool->Shared->Prop}(he:h.get? e=some oe)(pH:oe.cls=.ref C)(hS:h.get? S=some (excClassObj VI q2 S N2 XY Pb QN Vu Ub Y3 V2 wX l0 l1 l2 l3 l5 Nk))(hb:Pb.contains (.type "BaseException")=true)(L:PySem.W.Looks M h (isSubtype (.ref C) (.ref S)) true)(hq:Q true ⟨h,g,d,t,os⟩):wpAny M A (excMatches (.ref e) (.ref S)) Q E ⟨h,g,d,t,os⟩:=by
 have hB:(Value.ref S::Pb).contains (.type "BaseException")=true:=by rw[List.contains_cons,hb,Bool.or_true]
 have f:=tc_notTuple;unfold excMatches;repeat (first|(with_reducible refine wpAny_loadPart_at he ?_;rw[pH])|with_reducible refine wpAny_loadPart_at hS ?_|(with_reducible refine wpAny_isSubtype_exc hS ?_;rw[hB])|(with_reducible refine L.at ?_)|wp_step)
 exact hq
variable {ts:Addr->Obj->TS} {E:XK}
noncomputable def tTryE (N:Nat) (E:XK) (i:Nat) (te:TE) (ts:Addr->Obj->TS):TS:=λD σ H=>te σ H (λ_ H1=>D.nx σ H1)/\
 ∀a oe C H',oe.cls=.ref C->(∃vs,oe.data=.fields vs)->E (.ref C) none H'->H' a=none->
  ts a oe {nx:=λbD qV=>D.nx (bD.set i none) qV,rt:=D.rt} ((List.replicate N none).set i (some (.ref a))) H'
variable {p1 hp:Pos} {HS:Stmt} {n:Str} {BV:List Stmt}
variable {S:Addr} in
theorem ps_tryE(OS:Ec X.K X.mg x S)(hg:Gl X x)(hN:X.N.Nodup)(hi:X.N[i]?=some n)(Jc:X.env.scope.names.lookup n=some .local)(gw:X.stack=X.env::X.outer)(kS:X.env.frame=some X.env.locals)(he:∀f p,Passes (CXF X.prog X.w) (Xt X f p) E->PE (Xt X f p) e te)(hE:∀cls od H,E cls od H->∃C,cls=.ref C/\subIn X.K (.ref C) (.ref S)=some true)(hs:∀a oe,iu (Xs X a oe) (HS::BV) (ts a oe))(hd:(x==("__debug__" : Str))=false:=by decide)(hw:swapsWith e none p1.line X.env=pure false:=by rfl):
  PS X (.Try [.Expr e p1] [.ExceptHandler (some (.Name x np)) (some n) (HS::BV) hp] [] [] pos) (tTryE X.N.length E i te ts):=by
 intro pins s σ H D I ⟨h1,h2⟩;refine wpAny_Try_except ?_;have QK:Passes (CXF X.prog X.w) (Xt X (λe bX=>wpAny (model X.prog X.w) X.A (noteFrame e X.env) (λ_ bx=>wpAny (model X.prog X.w) X.A (setFlight e none) (λ_ hJ=>
   wpAny (model X.prog X.w) X.A (handleBy e X.env [.ExceptHandler (some (.Name x np)) (some n) (HS::BV) hp]) (SP X pins D) X.xe hJ) X.xe bx) X.xe bX) (X.pn++pins)) E:=by
  intro pins1 tL H1 s1 ev s' J hx;obtain⟨a,cls,a0,H',B,rfl,F,Sb⟩:=hx;have J':=inv_tb J;obtain⟨C,rfl,UI⟩:=hE _ _ _ Sb;show wpAny (model X.prog X.w) X.A (noteFrame (.ref a) X.env) _ _ s';have UR:X.A.frames=some (X.env::X.outer):=by rw[J'.ok.frames,gw]
  have J3:∀b∈frs X.stack,∀o,s1.heap.get? b=some o->∀vs,o.data≠.fields vs:=λb hb o e=>by
   obtain⟨_,o',ho,hd⟩:=J'.stack.mem hb;rw[e]at ho;cases ho;exact hd
  refine wpAny_looks_onW UR kS (gw▸F.fly) λh4 held Vj=>?_;refine wpAny_landsW held λh5 Ot Vi=>?_;have F5:=F.up J3 (gw▸Ot) (Vj.trans Vi);have J5:L2.Inv X pins (List.replicate X.N.length none) H' {s' with heap:=h5}:=inv_none (J'.uP F5.os F5.un F5.ok F5.bare (λb z=>absurd z (by simp)));obtain⟨oe,vs,T,oT,ts',heq,⟨pH,_⟩,O7,_⟩:=id Ot.2.2.2;have Ex:∀{h:Heap} {o:Obj} {vs:Array Value} {dU:L2.St} {H2:Hp} {g d t os},L2.Inv X pins dU H2 ⟨h,g,d,t,os⟩->h.get? a=some o->o.data=.fields vs->a≠X.env.locals/\a∉X.fs:=fun{h o vs dU H2 g d t os} K1 e1 e2=>by
   refine⟨λz=>?_,λz=>?_⟩
   ·obtain⟨m,⟨o',es,ep,nB,fE,_⟩,_⟩:=K1.loc;rw[z]at e1;rw[show h.get? X.env.locals=some o' from nB]at e1;cases e1;rw[e2]at fE;cases fE
   ·exact K1.notF e1 z _ e2
  have J6:=inv_suite J5 heq F5.nt (Ex J5 heq O7).1 (Ex J5 heq O7).2 (λv q=>by rw[O7]at q;cases q);obtain⟨tl,N,nm,q,bs,hdct,sn,sub,ab,col,dd,k0,k1,k2,k3,k5,mN,hC,hN',En,TT⟩:=OS.obj J5.jE;obtain⟨nA,g',d',Vo,N1⟩:=s';refine wpAny_handleBy_cons (codeAny_handlers_test (mQ J6 hg OS.mg ?_ hd)) (by intro q;cases q);refine matches_par heq pH hC (TT.hasType excBase_ValueError.hasBase) (PySem.W.looks_subIn J5.jE UI) ?_;refine codeAny_handlers_suite_as ?_;refine lands_againW (gw▸Ot) λh6 Sq Vh=>?_;have F6:=F5.up J3 (gw▸Sq) Vh;have J7:L2.Inv X pins (List.replicate X.N.length none) H' ⟨h6,g',d',Vo,N1⟩:=inv_none (J'.uP F6.os F6.un F6.ok F6.bare (λb z=>absurd z (by simp)));obtain⟨o6,v6,T6,oT6,t6,Hn,⟨QQ,_⟩,Cf,_⟩:=id Sq.2.2.2;have J8:=inv_suite J7 Hn F6.nt (Ex J7 Hn Cf).1 (Ex J7 Hn Cf).2 (λv q=>by rw[Cf]at q;cases q);refine j3 (X:=Xs X a o6) (i:=i) (v:=.ref a) J8 hN hi (.inl Jc) rfl (λs7 J9=>?_) (.inr Jc);refine wpAny_mono (hs a o6 pins s7 _ H' _ J9 (h2 a o6 C H' QQ ⟨_,Cf⟩ Sb F6.nt)) (λfl s8 hf=>?_) λ_ _ z=>z.elim;have gone:∀{CL:L2.St} {H8:Hp} {R:Prop},L2.Inv (Xs X a o6) pins CL H8 s8->(∀s9,L2.Inv X pins (CL.set i none) H8 s9->SP X pins D fl s9)->
    wpAny (model X.prog X.w) X.A (do bindName X.env n .none;unbindBehindTheSuite X.env n hp) (λ_ s9=>SP X pins D fl s9) X.xe s8:=fun{CL H8 R} K8 k=>by
   have K9:=inv_back J7.ok K8;obtain⟨m,hm,hl⟩:=id K9.loc;refine wpAny_nameGoes_keeps (m:=m) Jc hm (by rw[K9.ok.kind];rfl) λh' v NV Wf=>k _ (inv_gone K9 hN hi hl NV Wf)
  cases fl with
  |next=>
   obtain⟨CL,H8,K8,q8⟩:=hf;exact gone (R:=True) K8 λs9 K9=>⟨_,H8,K9,q8⟩
  |ret u=>
   obtain⟨v8,CL,H8,K8,r8,q8⟩:=hf;exact gone (R:=True) K8 λs9 K9=>⟨v8,_,H8,K9,r8,q8⟩
  |brk=>obtain⟨_,_,_,q8⟩:=hf;exact q8.elim
  |cont=>obtain⟨_,_,_,q8⟩:=hf;exact q8.elim
 have hb:=jY (rF (pos:=p1) (he _ _ QK) hw);refine wpAny_mono (hb [] s σ H {nx:=D.nx,rt:=λ_ _=>False} (inv_t I) h1) (λfl s1 hf=>?_) λ_ _ z=>z;cases fl with
 |next=>
  obtain⟨tL,H1,K1,q1⟩:=hf;exact wpAny_execs_nil ⟨tL,H1,inv_tb K1,q1⟩
 |ret u=>obtain⟨_,_,_,_,_,q1⟩:=hf;exact q1.elim
 |brk=>obtain⟨_,_,_,q1⟩:=hf;exact q1.elim
 |cont=>obtain⟨_,_,_,q1⟩:=hf;exact q1.elim
open PySem PySem.Spec PySem.Calls PySem.W PyProof.Rows PySem.Builtin PySem.Builtin.ObjectAttr PySem.Builtin.Getset_descriptor
structure ExK (K:Frag) (D:Addr):Prop where
 c:(clsIn K D).isSome=true
 g1:findIn K (.ref D) "__getattribute__"=some (some (.builtin "BaseException.__getattribute__"))
 g2:findIn K (.ref D) "__getattr__"=some none
 a:findIn K (.ref D) "__class__"=some (some (.builtin "object.__class__"))
 n:specialIn K (.builtin "object.__class__") "__get__"=some (some (.builtin "getset_descriptor.__get__"))
 t:takesIn K (.builtin "object.__class__")=some true
 m:mroIn K D (.type "object")=some true
 b:mroIn K D (.type "BaseException")=some true
variable {D x:Addr}
def OfC (x D:Addr) (h:Heap):Prop:=∃o,h.get? x=some o/\o.cls=.ref D
theorem OfC.ty(p:OfC x D h):Looks M h (typeOf (.ref x)) (.ref D):=let ⟨_,e,c⟩:=p;c▸(Looks.ld e).andThen .now
variable {K:Frag}
theorem exc_cls(Z:ExK K D){prog:Program}{E:Value->Shared->Prop}{Q:Option Value->Shared->Prop}{s:Shared}(X:K.In s.heap)(p:OfC x D s.heap)(h:Q (some (.ref D)) {s with toks:=s.toks+1}):wpAny (model prog w) A (getAttr? (.ref x) "__class__") Q E s:=by
 obtain⟨hp,gs,dr,tk,os⟩:=s;have T:=p.ty (M:=model prog w);have G1:=looks_findIn (M:=model prog w) X Z.g1;have G2:=looks_findIn (M:=model prog w) X Z.g2;have Fd:Looks (model prog w) hp (find (.ref x) (.ref D) "__class__") (.bind (.builtin "getset_descriptor.__get__") (.builtin "object.__class__")):=
  (looks_findIn X Z.a).andThen ((looks_specialIn X Z.n).andThen ((show Looks (model prog w) hp (dataDescriptor? (some (.builtin "object.__class__")) (some (.builtin "getset_descriptor.__get__"))) (some (.builtin "getset_descriptor.__get__",.builtin "object.__class__"))
   from(looks_takesIn X Z.t).andThen .now).andThen (Looks.tag .now)))
 have Gm:=looks_mroIn (M:=model prog w) X Z.m;have Gb:=looks_mroIn (M:=model prog w) X Z.b;have jF:(Value.builtin "BaseException.__getattribute__" == Value.builtin "object.__getattribute__")=false:=by decide +kernel
 have RO:(onTheHeap (Value.ref D)&&Value.builtin "BaseException.__getattribute__" == Value.builtin "object.__getattribute__")=false:=by rw[jF];rfl
 have f3:=F.attr_ValueError.ga.bind (.ref x);unfold getAttr? getAttrBy? getAttrBy;refine wpAny_bind (wpAny_mkText (wpAny_bind (wpAny_attempt (wpAny_holding (wpAny_bind (T.at (wpAny_bind (G1.at ?_))))))));dsimp only;rw[RO];show wpAny (model prog w) A (getAttrByItsOwn _ _ _ _ _ _) _ _ _;unfold getAttrByItsOwn hookBefore;refine wpAny_bind (show wpAny (model prog w) A (typeLookup (.ref D) "__getattr__") _ _ _ from G2.at ?_);refine wpAny_bind (wpAny_attempt (wpAny_holding ?_));show wpAny (model prog w) _ (boundAndCalled _ _ _) _ _ _;unfold boundAndCalled;rw[f3];refine wpAny_bind (wpAny_pure (wpAny_call (codeAny_call_builtin F.attr_ValueError.ga.plain F.entry_bexc_ga ?_)));have hk:builtinKind "BaseException.__getattribute__"=some .slot:=by decide +kernel
 have NP:splitId "BaseException.__getattribute__"=some ("BaseException","__getattribute__"):=by decide +kernel
 have ha:=F.args_bexc_ga (.ref x) (.str "__class__" tk);simp only[checkBuiltinCall,hk,NP];refine wpAny_bind ?_;unfold isInstance;have L0:=T;have L1:=Gb;repeat lk
 show wpAny (model prog w) _ (run (.call (.builtin "getset_descriptor.__get__") ⟨[.builtin "object.__class__",.ref x,.ref D],[]⟩) none) _ _ _;refine wpAny_run ?_;refine codeAny_call_builtin KF.slot_gs.plain KF.entry_gs (KF.slot_gs.check _ _ _ _ _ _ _ _ KF.type_class (KF.args_gs _ _ _) ?_);unfold Builtin.«getset_descriptor.__get__» descrGet;rw[dga_obj];refine wpAny_bind (wpAny_pure ?_);unfold descrGetter descrCheckInstance descrNameAndClass isInstance;simp only[KF.owner_class];have L2:=Gm;repeat lk
 refine⟨Code.quiet_builtin _ (by decide +kernel),codeAny_builtin KF.entry_class ?_⟩;unfold Builtin.«object.__class__» shownTypeOf;repeat lk
 exact h
theorem kitx_exc(Z:ExK K D):KitX K (.ref x) (.ref D) (OfC x D) where
 ty:=λ_ _ _ p=>p.ty
 it:=λ_ _ X _=>by
  obtain⟨cd,hc⟩:=isSome_iff_exists.mp Z.c;unfold clsIn at hc;split at hc
  ·rename_i ho;intro A' Q' E' s' k q;unfold isType loadHead;exact wpAny_bind (wpAny_loadPart (k _ _ (X _ _ ho)) (wpAny_pure q))
  ·cases hc
 ne:=λh tp dd aA n sl X ht=>by
  obtain⟨cd,hc⟩:=isSome_iff_exists.mp Z.c;refine eq_false_iff.mpr λq=>?_;cases Value.ref.inj (beq_iff_eq.mp q);unfold clsIn at hc;split at hc
  ·rename_i ho;cases(X _ _ ho).symm.trans ht
  ·cases hc
 ca:=λX p k=>exc_cls Z X p k
open PySem PySem.Spec PyProof.Rows L2
open PySem.W (Dat kqdOk)
def Acc (X:Cx) (E:XK) (C:Addr):Prop:=∀H',aO X.aq H'->E (.ref C) none H'
noncomputable def tRx (K:Fg) (aq:Hp) (g:aD->Bool):TS:=λ_ σ H=>∃Av pn aQ Γ,jy K aq Av pn aQ H σ Γ/\g Γ=true
abbrev RS (X:Cx) (st:Stmt) (g:aD->Bool):Prop:=PS X st (tRx X.K X.aq g)
abbrev RSs (X:Cx) (st:List Stmt) (g:aD->Bool):Prop:=iu X st (tRx X.K X.aq g)
noncomputable def tRe (K:Fg) (aq:Hp) (g:ay->Bool):TE:=λσ H _=>∃Av ρ,ij H Av/\fD K H Av σ ρ/\aO aq H/\g ρ=true
abbrev RE (X:Cx) (e:Expr) (g:ay->Bool):Prop:=PE X e (tRe X.K X.aq g)
noncomputable def spX (K:Fg) (n:Nat) (R:List Dat->Addr->Bool):Sp:=λvs H _ E=>∃Av ds C,ij H Av/\aF K H Av vs ds/\ds.length=n/\R ds C=true/\∀H',aO H H'->E (.ref C) none H'
structure DnX (P:Program) (w:World) (K:Fg) (mg:Str->Option Value) (base:Heap) (k:Nat) (x:Str) (ps:List Str) (n:Nat) (R:List Dat->Addr->Bool):Prop where
 ex:∃(f:Addr) (fd:FuncData),gg P w K mg base (CXF P w) k f fd ps (spX K n R)/\mg x=some (.ref f)/\keepIn K (.ref f)=true/\Binds K fd ps []
variable {base:Heap} {j n:Nat} {x:Str} {ps:List Str} {R:List Dat->Addr->Bool}
theorem DnX.up{K:Fg}{k:Nat}(D:DnX P w K mg base j x ps n R)(h:j<=k):DnX P w K mg base k x ps n R:=by
 obtain⟨f,fd,h1,h2⟩:=D.ex;exact⟨f,fd,h1.mono h,h2⟩
variable {fs:ay->Option (List Dat)} in
noncomputable def xFn (n:Nat) (R:List Dat->Addr->Bool) (C:Addr) (fs:ay->Option (List Dat)):ay->Bool:=λρ=>match fs ρ with
 |some ds=>decide (ds.length=n)&&R ds C
 |none=>false
variable {p:Pos}
variable {fs:ay->Option (List Dat)} in
theorem re_call{k:Nat}(hX:Xe X E)(hA:Acc X E C)(D:DnX X.prog X.w X.K X.mg X.base k x ps n R)(hr:cj k X.A)(ha:FX X (e::es) fs)(hg:Gl X x:=by rfl)(fO:(x==("__debug__" : Str))=false:=by decide)(he:starEach (e::es) X.env=(false,eval e X.env)::starEach es X.env:=by rfl)(bW:(backTo pos (starEach es X.env)).any (·.1)=false:=by rfl):RE X (.Call (.Name x p) (e::es) [] pos) (xFn n R C fs):=by
 obtain⟨f,fd,h1,h2,h3,h4⟩:=D.ex;refine bA (mO h1 hr hg h2 h3 h4 .nil (passF hX) ha fO he bW) λσ H Q ⟨Av,ρ,wQ,hE,sm,hg⟩=>?_;unfold xFn at hg;split at hg
 ·rename_i ds e1;simp only[and_eq_true,decide_eq_true_eq]at hg;exact⟨Av,ρ,ds,wQ,hE,e1,λxs H1 s1 r1=>⟨Av,ds,C,wQ.same s1,by rw[append_nil];exact r1,hg.1,hg.2,λH' s'=>hA H' (sm.trans (s1.trans s'))⟩⟩
 ·cases hg
variable {st:Stmt} {g1:aD->Bool}
variable {g:aD->Bool} in
theorem rs_mono(h:RS X st g)(m:∀Γ,g1 Γ=true->g Γ=true):RS X st g1:=cT h λ_ _ _ ⟨Av,pn,aQ,Γ,G,q⟩=>⟨Av,pn,aQ,Γ,G,m Γ q⟩
noncomputable def xNo:aD->Bool:=λ_=>false
variable {g2:aD->Bool}
noncomputable def xOr (g1 g2:aD->Bool):aD->Bool:=λΓ=>g1 Γ || g2 Γ
variable {fs:ay->Option (List Dat)} in
noncomputable def xRaise (fs:ay->Option (List Dat)):aD->Bool:=λΓ=>match fs (bo Γ)with
 |some ds=>decide (ds.length<=3)
 |none=>false
variable {fs:ay->Option (List Dat)} in
theorem rs_raise(hX:Xe X E)(hA:Acc X E C)(hc:X.calm=true)(O:Ec X.K X.mg x C)(ha:FX X (e::es) fs)(hg:Gl X x:=by rfl)(hd:(x==("__debug__" : Str))=false:=by decide)(he:starEach (e::es) X.env=(false,eval e X.env)::starEach es X.env:=by rfl)(bW:(backTo gc (starEach es X.env)).any (·.1)=false:=by rfl):
  RS X (.Raise (some (.Call (.Name x np) (e::es) [] gc)) none pos) (xRaise fs):=cT (ps_raise hX hc O hg ha hd he bW) λD σ H aT=>by
 obtain⟨Av,pn,aQ,Γ,⟨ad,G⟩,q⟩:=aT;unfold xRaise at q;split at q
 ·rename_i ds e1;refine⟨Av,bo Γ,ds,G.fY.same G.same,G.gE,e1,λxs H1 s1 r1=>⟨?_,hA H1 (G.same.trans s1)⟩⟩;rw[r1.length];exact le_trans (of_decide_eq_true q) (by decide)
 ·cases q
variable {ge:ay->Bool}
theorem rs_expr(h:RE X e ge)(hs:swapsWith e none pos.line X.env=pure false:=by rfl):RS X (.Expr e pos) (λΓ=>ge (bo Γ)):=
 cT (rF h hs) λD σ H ⟨Av,pn,aQ,Γ,⟨ad,G⟩,q⟩=>⟨Av,bo Γ,G.fY.same G.same,G.gE,G.same,q⟩
theorem rs_ret(h:RE X e ge):RS X (.Return (some e) pos) (λΓ=>ge (bo Γ)):=
 cT (oy h) λD σ H ⟨Av,pn,aQ,Γ,⟨ad,G⟩,q⟩=>⟨Av,bo Γ,G.fY.same G.same,G.gE,G.same,q⟩
variable {y:Str} {pos':Pos}
theorem rs_set(hN:X.N.Nodup)(h:RE X e ge)(hi:X.N[i]?=some y:=by rfl)(hx:Loc X.env.scope y:=by first|exact .inl rfl|exact .inr rfl)(hs:swapsWith e (some (.Name y pos')) pos.line X.env=pure false:=by rfl)(hf:X.fn y=true\/X.env.scope.names.lookup y=some .local:=by first|exact .inl rfl|exact .inr rfl):
  RS X (.Assign [.Name y pos'] e pos) (λΓ=>ge (bo Γ)):=cT (hZ hN hi hx h hs hf) λD σ H ⟨Av,pn,aQ,Γ,⟨ad,G⟩,q⟩=>⟨Av,bo Γ,G.fY.same G.same,G.gE,G.same,q⟩
variable {ft:ay->Option Bool}
noncomputable def xIf (ft:ay->Option Bool) (g1 g2:aD->Bool):aD->Bool:=λΓ=>match ft (bo Γ)with
 |some true=>g1 Γ
 |some false=>g2 Γ
 |none=>false
variable {c:Expr} {a b:List Stmt}
theorem rs_if(hc:JH X c ft)(ha:RSs X a g1)(hb:RSs X b g2):RS X (.If c a b pos) (xIf ft g1 g2):=cT (ID hc ha hb) λD σ H aT=>by
 obtain⟨Av,pn,aQ,Γ,⟨ad,G⟩,q⟩:=aT;unfold xIf at q;split at q
 ·rename_i e1;exact⟨Av,bo Γ,true,G.fY.same G.same,G.gE,e1,λH' s=>show tRx X.K X.aq g1 D σ H' from⟨Av,pn,aQ,Γ,⟨ad,G.grow s⟩,q⟩⟩
 ·rename_i e1;exact⟨Av,bo Γ,false,G.fY.same G.same,G.gE,e1,λH' s=>show tRx X.K X.aq g2 D σ H' from⟨Av,pn,aQ,Γ,⟨ad,G.grow s⟩,q⟩⟩
 ·cases q
variable {rest:List Stmt}
theorem rss_or(h1:RSs X rest g1)(h2:RSs X rest g2):RSs X rest (xOr g1 g2):=λpins s σ H D I aT=>by
 obtain⟨Av,pn,aQ,Γ,G,q⟩:=aT;rcases or_eq_true_iff.mp q with q|q
 ·exact h1 pins s σ H D I ⟨Av,pn,aQ,Γ,G,q⟩
 ·exact h2 pins s σ H D I ⟨Av,pn,aQ,Γ,G,q⟩
variable {g:aD->Bool} in
theorem rs_hd(h:RS X st g):RSs X (st::rest) g:=λpins s σ H D I q=>by
 refine wpAny_execs_cons (bP (h pins s σ H {nx:=λ_ _=>False,rt:=λ_ _=>False} I q) λfl s1 z=>?_);cases fl with
 |next=>obtain⟨_,_,_,z⟩:=z;exact z.elim
 |ret u=>obtain⟨_,_,_,_,_,z⟩:=z;exact z.elim
 |brk=>obtain⟨_,_,_,z⟩:=z;exact z.elim
 |cont=>obtain⟨_,_,_,z⟩:=z;exact z.elim
variable {f:aD->Option Fl}
variable {g:aD->Bool} in
noncomputable def xSeq (f:aD->Option Fl) (g:aD->Bool):aD->Bool:=λΓ=>match f Γ with
 |some (.nx au)=>g au
 |_=>false
variable {g:aD->Bool} in
theorem rs_tl(h1:PB X st f)(h2:RSs X rest g):RSs X (st::rest) (xSeq f g):=l6 (gr h1 h2) λD σ H aT=>by
 obtain⟨Av,pn,aQ,Γ,G,q⟩:=aT;unfold xSeq at q;split at q
 ·rename_i au e1;exact⟨X.aq,Av,pn,aQ,Γ,_,G,e1,λbD H' G'=>⟨Av,pn,aQ,au,G',q⟩⟩
 ·cases q
noncomputable def xForL (gt:Dat->Option dH) (gb:aD->Option Fl) (gx:aD->Bool):List Dat->aD->Bool
 |[],_=>false
 |d::r,Γ=>match gt d with
  |some as=>gx (setG Γ as) || (match gb (setG Γ as)with
   |some (.nx au)=>xForL gt gb gx r au
   |some (.ct au)=>xForL gt gb gx r au
   |_=>false)
  |none=>false
noncomputable def xFor (gt:Dat->Option dH) (gb:aD->Option Fl) (gx:aD->Bool) (f:ay->Option Dat):aD->Bool:=λΓ=>match (f (dD Γ)).bind j8 with
 |some ds=>xForL gt gb gx ds Γ
 |none=>false
noncomputable def tOrS (t u:TS):TS:=λD σ H=>t D σ H\/u D σ H
theorem pss_or{t u:TS}(h1:iu X rest t)(h2:iu X rest u):iu X rest (tOrS t u):=λpins s σ H D I q=>q.elim (h1 pins s σ H D I) (h2 pins s σ H D I)
variable {gt:Dat->Option dH} {gx:aD->Bool} {ds:List Dat} {Γ:aD}
theorem xfor_turns{K:Fg}{gb:aD->Option Fl}{D:Ends}{aq:Hp}{Av:eX}{pn:Option Addr}{aQ:Hid}{x:V}{d:Dat}{J:It}{H1:Hp}(ov:Over K J x d ds)(G:jy K aq Av pn ((x,d)::aQ) H1 σ Γ)(hf:xForL gt gb gx ds Γ=true):
  ∃W:Nat->Nat->L2.St->Hp->Prop,(∃m,W 0 m σ H1)/\∀i m σ H,W i m σ H->
   (J.stop i H/\D.nx σ H)\/(J.go i H/\∃N:L2.St->Hp->Prop,(∀bD H',N bD H'->∃m',m'<m/\W (i+1) m' bD H')/\∀x H',J.oh i H x H'->iN K gt x σ H' λdU H2=>tOrS (oo K gb) (tRx K aq gx) {D with nx:=N,ct:=N,bk:=D.nx} dU H2):=by
 refine⟨λi m σ H=>m=ds.length-i/\i<=ds.length/\∃Γ,jy K aq Av pn ((x,d)::aQ) H σ Γ/\xForL gt gb gx (ds.drop i) Γ=true,⟨_,rfl,zero_le _,Γ,G,by rw[drop_zero];exact hf⟩,?_⟩;rintro i m σ H ⟨rfl,hi,Γ,⟨ad,G⟩,hf⟩;have rx:=G.aQ (x,d) mem_cons_self;cases gO:ds[i]? with
 |none=>
  rw[drop_eq_nil_of_le (List.getElem?_eq_none_iff.mp gO)]at hf;cases hf
 |some di=>
  have lO:=j9 gO;rw[drop_cons gO]at hf;unfold xForL at hf;split at hf
  ·rename_i as e1;obtain⟨go,yl⟩:=(ov i H _ rx).2 di gO;refine .inr ⟨go,λbD H'=>∃au,jy K aq Av pn ((x,d)::aQ) H' bD au/\xForL gt gb gx (ds.drop (i+1)) au=true,λbD H' ⟨au,G',h'⟩=>⟨ds.length-(i+1),by omega,rfl,by omega,au,G',h'⟩,λy H' hy=>?_⟩;obtain⟨eH,ry⟩:=yl y H' hy;subst eH;refine⟨cI Av Γ ad,di,as,ry,e1,λws hw=>?_⟩;have G2:jy K aq Av pn ((x,d)::aQ) H' _ (setG Γ as):=⟨ad,GA.gJ hw (λ_ z=>z) G⟩;rcases or_eq_true_iff.mp hf with hf|hf
   ·exact .inr ⟨Av,pn,(x,d)::aQ,_,G2,hf⟩
   ·split at hf
    ·rename_i au e2;exact .inl ⟨aq,Av,pn,(x,d)::aQ,_,_,G2,e2,λdU H2 G3=>⟨au,G3,hf⟩⟩
    ·rename_i au e2;exact .inl ⟨aq,Av,pn,(x,d)::aQ,_,_,G2,e2,λdU H2 G3=>⟨au,G3,hf⟩⟩
    ·cases hf
  ·cases hf
variable {tg iter:Expr} {fi:ay->Option Dat}
theorem rs_for{body:List Stmt}{gb:aD->Option Fl}(hp:PassesOwn (model X.prog X.w) X.A X.env X.xe)(hc:X.calm=true)(hi:PF X iter fi)(hg:PG X tg (iN X.K gt))(hb:Pz X body gb)(hx:RSs X body gx)(hs:∀x,foldedSetIterable iter X.env x=pure x:=by intro _;rfl):RS X (.For tg iter body [] pos) (xFor gt gb gx fi):=cT (yI hp hc (qp hi) hg (pss_or hb hx) hs) λD σ H aT=>by
 obtain⟨Av,pn,aQ,Γ,⟨ad,G⟩,q⟩:=aT;unfold xFor at q;split at q
 ·rename_i ds e;obtain⟨d,e1,e2⟩:=bind_some e;refine⟨cI Av Γ ad,dD Γ,d,G.uS,G.qH,e1,λx H1 s1 r=>?_⟩;cases d with
  |list jH=>
   cases e2;obtain⟨a,xs,rfl,hq,rs⟩:=r.eZ;exact⟨a,rfl,.inl ⟨⟨xs,hq.sq⟩,xfor_turns lK ⟨ad,(G.grow s1).hide r⟩ q⟩⟩
  |tuple jH=>
   cases e2;obtain⟨a,xs,rfl,hq,rs⟩:=r.gI;exact⟨a,rfl,.inr ⟨⟨xs,hq.sq⟩,xfor_turns nq ⟨ad,(G.grow s1).hide r⟩ q⟩⟩
  |_=>cases e2
 ·cases q
variable {fd:FuncData} {N:List Str}
theorem fun_okX{K:Fg}{CX:pT}{qual:Str}{f:Addr}{k:Nat}{sp:Sp}(F:mw K x qual st f fd)(S:eh N ps (aP st))(len:∀vs H Q E,sp vs H Q E->vs.length=ps.length)(hb:∀(bJ:Value) (A:Around) (outer:List Env) (s:Shared) (H:Hp) (vs:List V) (Q:VK) (E:XK),cj k (A.deeper (envOfC qual (aP st) s.heap.objs.size f bJ))->sp vs H Q E->
   ∃t,iu (g9 CX P w K mg base N qual (aP st) f bJ A outer s H E) (d4 st) t/\t {nx:=λ_ H'=>Q .bU H',rt:=Q} (start N vs) H):gg P w K mg base CX (k+1) f fd ps sp:=
 let ⟨_,_,_,_,_,_,bJ,_,_,e,lk,gy⟩:=F.ex;e▸Jq (e▸lk) gy S len (hb bJ)
theorem dnX_of{K:Fg}{qual:Str}{fa:Addr}{k:Nat}{g:Addr->aD->Bool}(U:mw K x qual st fa fd)(hm:mg x=some (.ref fa))(hB:Binds K fd ps [])(S:eh N ps (aP st))(hn:ps.length=n)(hbody:∀(bJ:Value) (A:Around) (outer:List Env) (s:Shared) (H:Hp) (E:XK) (C:Addr),cj k (A.deeper (envOfC qual (aP st) s.heap.objs.size fa bJ))->
   let X:=g9 (CXF P w) P w K mg base N qual (aP st) fa bJ A outer s H E
   Xe X E->Acc X E C->PassesOwn (model P w) X.A X.env X.xe->RSs X (d4 st) (g C))(hR:∀ds C,ds.length=n->R ds C=true->g C (bY N ds)=true):DnX P w K mg base (k+1) x ps n R:=by
 have bW:ps.length<=N.length:=by have:=congrArg List.length S.pre;rw[length_take]at this;omega
 refine⟨fa,fd,fun_okX U S (λvs H Q E h=>?_) (λbJ A outer s H vs Q E hr h=>?_),hm,U.kp,hB⟩
 ·obtain⟨Av,ds,C,_,r,hl,_⟩:=h;rw[r.length,hl,hn]
 ·obtain⟨Av,ds,C,hA,r,hl,hd,q⟩:=h;refine⟨_,hbody bJ A outer s H E C hr ⟨rfl,rfl,rfl,λ_ _ z=>z⟩ q PassesOwn.leaving,?_⟩;exact⟨Av,none,[],bY N ds,jM hA r (by omega),hR ds C hl hd⟩
open PySem PySem.Spec PyProof.Rows L2
open PySem.W (Dat kqdOk)
structure Xc (X:Cx) (E:XK) (C:Addr):Prop where
 xe:Xe X E
 acc:Acc X E C
 own:PassesOwn (model X.prog X.w) X.A X.env X.xe
 calm:X.calm=true
abbrev QR (X:Cx) (st:Stmt) (g:aD->Bool):Prop:=QS X st (tRx X.K X.aq g)
abbrev QRs (X:Cx) (st:List Stmt) (g:aD->Bool):Prop:=SR X st (tRx X.K X.aq g)
abbrev QRE (X:Cx) (e:Expr) (g:ay->Bool):Prop:=QE X e (tRe X.K X.aq g)
noncomputable def fFmt (a b:Str) (f:ay->Option Dat):ay->Option Dat:=λρ=>(f ρ).bind λd=>match d with
 | .int i=>if(Str.empty++a).length<=sizeLine/\i.natAbs.log2<1920/\(Str.empty++a++toString i).length<=sizeLine/\(Str.empty++a++toString i++b).length<=sizeLine then some (.str (Str.empty++a++toString i++b))else none
 |_=>none
variable {fe:ay->Option Dat}
theorem qpf_fmt{a b:Str}{j1 j2 p1 p2 p3}(h:QF X e fe):QF X (.JoinedStr [.Constant (.str a) j1 p1,.FormattedValue e (-1) none p2,.Constant (.str b) j2 p3] pos) (fFmt a b fe):=
 ⟨bA (pe_fmt h.o) λσ H Q aT=>by
  obtain⟨Av,ρ,d,hA,hE,hf,q⟩:=aT;obtain⟨d1,e1,hf⟩:=bind_some hf;split at hf
  ·rename_i i;split at hf
   ·rename_i hz;cases hf;exact⟨hz.1,Av,ρ,_,hA,hE,e1,λv H' s r=>by
     cases r with
     |int=>exact⟨i,rfl,hz.2.1,hz.2.2.1,hz.2.2.2,q _ _ s (.str _)⟩⟩
   ·cases hf
  ·cases hf⟩
variable {fs:ay->Option (List Dat)} in
theorem qre_call{k:Nat}(D:DnX X.prog X.w X.K X.mg X.base k x ps n R)(hr:cj k X.A)(hx:Xc X E C)(ha:g5 X (e::es) fs)(hg:Gl X x:=by rfl)(fO:(x==("__debug__" : Str))=false:=by decide)(he:starEach (e::es) X.env=(false,eval e X.env)::starEach es X.env:=by rfl)(bW:(backTo pos (starEach es X.env)).any (·.1)=false:=by rfl):QRE X (.Call (.Name x p) (e::es) [] pos) (xFn n R C fs):=⟨re_call hx.xe hx.acc D hr ha.o hg fO he bW⟩
variable {C0:Addr}
variable {fs:ay->Option (List Dat)} in
noncomputable def xRs (C C0:Addr) (fs:ay->Option (List Dat)):aD->Bool:=λΓ=>decide (C0=C)&&xRaise fs Γ
variable {fs:ay->Option (List Dat)} in
theorem qr_raise(hx:Xc X E C)(O:Ec X.K X.mg x C0)(ha:g5 X (e::es) fs)(hg:Gl X x:=by rfl)(hd:(x==("__debug__" : Str))=false:=by decide)(he:starEach (e::es) X.env=(false,eval e X.env)::starEach es X.env:=by rfl)(bW:(backTo gc (starEach es X.env)).any (·.1)=false:=by rfl):
  QR X (.Raise (some (.Call (.Name x np) (e::es) [] gc)) none pos) (xRs C C0 fs):=by
 by_cases z:C0=C
 ·subst z;exact⟨rs_mono (rs_raise hx.xe hx.acc hx.calm O ha.o hg hd he bW) λΓ q=>by unfold xRs at q;simpa using q⟩
 ·exact⟨λ_ _ _ _ _ _ ⟨_,_,_,_,_,q⟩=>by unfold xRs at q;rw[decide_eq_false z]at q;cases q⟩
noncomputable def xE (ge:ay->Bool):aD->Bool:=λΓ=>ge (bo Γ)
theorem qr_expr(h:QRE X e ge)(hs:swapsWith e none pos.line X.env=pure false:=by rfl):QR X (.Expr e pos) (xE ge):=⟨rs_expr h.o hs⟩
theorem qr_if(hc:gR X c ft)(ha:QRs X a g1)(hb:QRs X b g2):QR X (.If c a b pos) (xIf ft g1 g2):=⟨rs_if hc.o ha.o hb.o⟩
theorem qr_no:QRs X rest xNo:=⟨λ_ _ _ _ _ _ ⟨_,_,_,_,_,q⟩=>by cases q⟩
variable {g:aD->Bool} in
theorem qr_one(h:QR X st g):QRs X [st] g:=⟨rs_hd h.o⟩
variable {g:aD->Bool} in
theorem qr_hd(h:QR X st g):QRs X (st::rest) g:=⟨rs_hd h.o⟩
variable {g:aD->Bool} in
theorem qr_tl(h1:jc X st f)(h2:QRs X rest g):QRs X (st::rest) (xSeq f g):=⟨rs_tl h1.o h2.o⟩
theorem qr_cons(h:QR X st g1)(h1:jc X st f)(h2:QRs X rest g2):QRs X (st::rest) (xOr g1 (xSeq f g2)):=⟨rss_or (rs_hd h.o) (rs_tl h1.o h2.o)⟩
theorem qr_for{body:List Stmt}{gb:aD->Option Fl}(hx:Xc X E C)(hi:QF X iter fi)(hg:QG X tg (iN X.K gt))(hb:jP X body gb)(hy:QRs X body gx)(hs:∀x,foldedSetIterable iter X.env x=pure x:=by intro _;rfl):QR X (.For tg iter body [] pos) (xFor gt gb gx fi):=⟨rs_for hx.own hx.calm hi.o hg.o hb.o hy.o hs⟩
theorem qdnX{K:Fg}{k:Nat}(N:List Str)(U:FnAt K mg x st ps){g:Addr->aD->Bool}(hbody:N.Nodup->∀(fa:Addr) (bJ:Value) (A:Around) (outer:List Env) (s:Shared) (H:Hp) (E:XK) (C:Addr),cj k (A.deeper (envOfC x (aP st) s.heap.objs.size fa bJ))->Xc (g9 (CXF P w) P w K mg base N x (aP st) fa bJ A outer s H E) E C->
   QRs (g9 (CXF P w) P w K mg base N x (aP st) fa bJ A outer s H E) (d4 st) (g C))(S:eh N ps (aP st):=by exact⟨rfl,rfl,rfl,by decide +kernel,rfl,by decide +kernel,by decide +kernel⟩)(hn:ps.length=n:=by rfl):DnX P w K mg base (k+1) x ps n (λds C=>g C (bY N ds)):=by
 obtain⟨f,fd,U,hm,hB⟩:=U.ex;exact dnX_of U hm hB S hn (λbJ A outer s H E C hr hx ha ho=>(hbody S.nd f bJ A outer s H E C hr ⟨hx,ha,ho,rfl⟩).o) λ_ _ _ h=>h
open PySem PySem.Spec PyProof.Rows L2
open PySem.W (Dat kqdOk)
noncomputable def rIs (K:Fg) (a:Addr) (oe:Obj):List V->Hp->VK->Prop:=λvs H Q=>∃D b,oe.cls=.ref D/\ExK K D/\((∃c,vs=[.ref a,.ref c]/\kitOne K (.ref D) (.ref c)=some b)\/(∃T,vs=[.ref a,.ty T]/\kitOne K (.ref D) (.type T)=some b))/\Q (.bl b) H
variable {a:Addr}
theorem call_isX(hp:(a,oe)∈X.pn):iK X (.builtin "isinstance") (rIs X.K a oe):=by
 intro pins s σ H xs us Q I r ⟨D,b,hc,Z,h,q⟩;have pin:=(I.pin _ (mem_append_left _ hp)).1;rcases h with⟨c,rfl,e⟩|⟨T,rfl,e⟩
 ·cases r with
  |cons r1 r=>cases r with
   |cons r2 r=>cases r with
    |nil=>
     cases r1;cases r2;exact kia_one (kitx_exc Z) I.jE ⟨oe,pin,hc⟩ e (by intro z;cases z) λtk=>⟨.bl b,H,I.tok _,rfl,q⟩
 ·cases r with
  |cons r1 r=>cases r with
   |cons r2 r=>cases r with
    |nil=>
     cases r1;cases r2;exact kia_one (kitx_exc Z) I.jE ⟨oe,pin,hc⟩ e (by intro z;cases z) λtk=>⟨.bl b,H,I.tok _,rfl,q⟩
noncomputable def tIs (K:Fg) (i:Nat) (a:Addr) (oe:Obj) (v:V):TE:=Ik (rIs K a oe) (rh (yb i) (rh (tC v) BR))
variable {p2:Pos}
theorem pe_isC(i:Nat){c:Addr}(hp:(a,oe)∈X.pn)(hI:X.mg "isinstance"=none)(hm:X.mg y=some (.ref c))(hN:X.N[i]?=some x:=by rfl)(hv:oN X.env.scope x:=by exact Or.inl rfl)(g1:Gl X "isinstance":=by rfl)(g2:Gl X y:=by rfl)(hd:(x==("__debug__" : Str))=false:=by decide)(gy:(x==("__classdict__" : Str))=false:=by decide)(hd2:(y==("__debug__" : Str))=false:=by decide):PE X (.Call (.Name "isinstance" p) [.Name x p1,.Name y p2] [] pos) (tIs X.K i a oe (.ref c)):=
 pk (call_isX hp) g1 hI (by decide +kernel) (bR (nh hN hv hd gy) (bR (mM g2 hm rfl hd2) fU))
theorem pe_isT(i:Nat){T:String}(hp:(a,oe)∈X.pn)(hI:X.mg "isinstance"=none)(hm:X.mg y=none)(hb:bootBuiltins y=some (.type T):=by decide +kernel)(hN:X.N[i]?=some x:=by rfl)(hv:oN X.env.scope x:=by exact Or.inl rfl)(g1:Gl X "isinstance":=by rfl)(g2:Gl X y:=by rfl)(hd:(x==("__debug__" : Str))=false:=by decide)(gy:(x==("__classdict__" : Str))=false:=by decide)(hd2:(y==("__debug__" : Str))=false:=by decide)(hn:y≠"__name__":=by decide):PE X (.Call (.Name "isinstance" p) [.Name x p1,.Name y p2] [] pos) (tIs X.K i a oe (.ty T)):=
 pk (call_isX hp) g1 hI (by decide +kernel) (bR (nh hN hv hd gy) (bR (λ_ _ _ H _ I h=>qC I g2 hm hb ⟨.ty T,H,I,rfl,h⟩ hn hd2) fU))
theorem tIs_c{K:Fg}{c:Addr}{b:Bool}{Q:VK}(h:σ[i]?=some (some (.ref a)))(hc:oe.cls=.ref D)(Z:ExK K D)(e:kitOne K (.ref D) (.ref c)=some b)(q:Q (.bl b) H):tIs K i a oe (.ref c) σ H Q:=
 ⟨_,h,D,b,hc,Z,.inl ⟨c,rfl,e⟩,q⟩
theorem tIs_t{K:Fg}{T:String}{b:Bool}{Q:VK}(h:σ[i]?=some (some (.ref a)))(hc:oe.cls=.ref D)(Z:ExK K D)(e:kitOne K (.ref D) (.type T)=some b)(q:Q (.bl b) H):tIs K i a oe (.ty T) σ H Q:=
 ⟨_,h,D,b,hc,Z,.inr ⟨T,rfl,e⟩,q⟩
open PySem PySem.Spec PyProof.Rows L2
variable {e L:Addr} {env:Env} {E:Value->Shared->Prop} {Q:Unit->Shared->Prop} {fl:Value}
variable {s:Shared} in
theorem notes_any(kS:A.frames=some (env::outer))(hf:env.frame=some L)(f1:base.StaysIn s.heap)(f2:base.get? e=none)(f3:s.heap.FunFrames base (env::outer))(f4:s.heap.TracedAtW base e cls a0 fl)(hQ:∀h',Heap.HeldW base (env::outer) e cls a0 L h'->s.heap.UpToSlots h'->Q () {s with heap:=h'}):wpAny M A (noteFrame (.ref e) env) Q E s:=by
 by_cases z:fl=rawInt L
 ·subst z;exact wpAny_noteFrame_againW hf f4 (hQ s.heap ⟨f1,f2,f3,f4⟩ λb o h _=>⟨o.slots,h⟩)
 ·obtain⟨oe,vs,T,oT,ts,he,⟨pH,h0⟩,hd,h1,Ja,Jk,hT,uB,h3⟩:=f4;subst pH;have rest:∀b,b≠T->(s.heap.update T (Obj.mapFields (·.setIfInBounds 3 Value.none))).get? b=s.heap.get? b:=λb hb=>Heap.get?_update_other _ _ (Ne.symm hb);have nr:∀b o,s.heap.get? b=some o->(∀vs,o.data≠.fields vs)->b≠T:=λb o hb hn q=>by
   subst q;rw[hT]at hb;cases hb;exact hn ts uB
  unfold noteFrame;simp only[hf];refine wpAny_bind (wpAny_field he hd h1 ?_);rw[if_pos (show(Value.ref T !=Value.none)=true by simp)];refine wpAny_bind (wpAny_field hT uB h3 ?_);rw[if_neg (show ¬((fl==rawInt L)=true) by simpa using z)];refine wpAny_bind (wpAny_setField hT uB (Array.getElem?_eq_some_iff.mp h3).1 ?_);refine wpAny_entryW kS (f3.of_keeps λb o hb hn=>⟨o,(rest b (nr b o hb hn)).trans hb,rfl⟩) hf ((rest e (Ne.symm Jk)).trans he)
   (λb o hb=>(rest b λq=>by rw[q,Ja]at hb;cases hb).trans (f1 b o hb)) f2 hd (Array.getElem?_eq_some_iff.mp h1).1 h0 λh' hN=>?_
  obtain⟨x1,x2,x3,x4⟩:=hN;exact hQ h' ⟨x1,f2,x2,x3⟩ λb o hb hn=>x4 b o ((rest b (nr b o hb hn)).trans hb) hn
variable {s:Shared} in
theorem leaves_any(kS:A.frames=some (env::outer))(hf:env.frame=some L)(f1:base.StaysIn s.heap)(f2:base.get? e=none)(f3:s.heap.FunFrames base (env::outer))(f4:s.heap.TracedAtW base e cls a0 fl)(hQ:∀h',FlyingW base outer e cls a0 h'->s.heap.UpToSlots h'->Q () {s with heap:=h'}):wpAny M A (leaving env (.ref e)) Q E s:=by
 unfold leaving;refine wpAny_bind (notes_any kS hf f1 f2 f3 f4 λh1 held up=>?_);refine wpAny_landsW held λh2 fl Vl=>?_;obtain⟨k1,k2,⟨_,_,k3⟩,k4⟩:=fl;exact hQ h2 ⟨k1,k2,k3,k4⟩ (up.trans Vl)
structure FlB (X:Cx) (fp:List Addr) (C:Addr) (H H':Hp) (s s':Shared) (B:Heap) (a:Addr) (cls a0 fl:Value):Prop where
 os:s'.os=s.os
 bare:AllBare s'.gens
 cov:∀b o,s.heap.get? b=some o->H b=none->b∉frs X.stack->b∉fp->B.get? b=some o
 slot:∀b o,s.heap.get? b=some o->H b=none->b∈frs X.stack->b∉fp->∃sl,s'.heap.get? b=some {o with slots:=sl}
 free:∀b o,s.heap.get? b=some o->H b=none->b∉fp->H' b=none
 there:∀b o,s.heap.get? b=some o->b∉frs X.stack->b∉fp->∃o',B.get? b=some o'
 tups:∀b xs,H b=some (.tup xs)->H' b=some (.tup xs)
 frzs:∀b o u,H b=some (.jt o u)->H' b=some (.jt o u)
 tbls:∀b ps,H b=some (.mj ps)->∃more,H' b=some (.mj (ps++more))
 hok:gA X.prog X.w H' B
 st:B.StaysIn s'.heap
 en:B.get? a=none
 fr:s'.heap.FunFrames B X.stack
 tr:s'.heap.TracedAtW B a cls a0 fl
 nc:H' C=none
 ns:∃m,s'.heap.Ns C m
noncomputable def xeB (X:Cx) (E:XK) (fp:List Addr) (C:Addr) (H:Hp) (s:Shared):Value->Shared->Prop:=λe s'=>∃a cls a0 fl H' B,e=.ref a/\FlB X fp C H H' s s' B a cls a0 fl/\E cls none H'
noncomputable abbrev blkX (X:Cx) (E:XK) (scope:Scope) (own:Option Str) (cl:List (Str×Addr)) (N':List Str) (C:Addr) (aC:Shared) (aq:Hp) (ex:List Addr):Cx:=
 {ie X scope own cl N' C aC aq ex with xe:=xeB X E ex C aq aC}
variable {N':List Str} {H2:Hp} {bx:Shared} {scope:Scope} {E:XK} {cl:List (Str×Addr)} {fp:List Addr} {own:Option Str}
theorem passB:Passes (CXF X.prog X.w) (blkX X E scope own cl N' C bx H2 fp) E:=λpins σ H s e s' J h=>by
 obtain⟨a,cls,a0,H',B,rfl,F,hE⟩:=h;have bs:Un (frs X.stack) fp H2 H bx.heap s.heap:=J.base;have F:Fly X.prog X.w X.stack H H' s s' B a cls a0:=F;have nC:C∉frs X.stack:=λhb=>by
  obtain⟨_,o,ho,_⟩:=J.ok.la.mem hb;exact absurd (lt_of_lt_of_le (lt_size ho) J.ok.above) (lt_irrefl _)
 obtain⟨m,⟨o,es,ep,ho,hr⟩,_⟩:=J.loc;have Sf:H C=none:=J.free;refine⟨a,cls,a0,.none,H',B,rfl,⟨F.os.trans J.os,F.bare,λb o e n h1 h2=>F.cov b o (bs.keep b o e n h1 h2) (bs.free b o e n h2) h1,λb o e n h1 h2=>?_,λb o e n h2=>?_,λb o e h1 h2=>?_,λb xs e=>F.tups b xs (bs.tups b xs e),λb o u e=>F.frzs b o u (bs.frzs b o u e),λb ps e=>?_,F.hok,F.fly.1,F.fly.2.1,F.fly.2.2.1,F.fly.2.2.2,F.free C o ho Sf,m,o,es,ep,F.fly.1 _ _ (F.cov C o ho Sf nC),hr⟩,hE⟩
 ·obtain⟨s1,e1⟩:=bs.slot b o e n h1 h2;obtain⟨s2,e2⟩:=F.slot b _ e1 (bs.free b o e n h2) h1;exact⟨s2,e2⟩
 ·obtain⟨o',e1⟩:=bs.there b o e h2;exact F.free b o' e1 (bs.free b o e n h2)
 ·obtain⟨o',e1⟩:=bs.there b o e h2;exact F.there b o' e1 h1
 ·obtain⟨m1,e1⟩:=bs.tbls b ps e;obtain⟨m2,e2⟩:=F.tbls b _ e1;exact⟨m1++m2,by rw[e2,Array.append_assoc]⟩
theorem funs_sub{B B' h:Heap}(k:∀b,B.get? b=none->B'.get? b=none):∀{l:List Env},h.FunFrames B l->h.FunFrames B' l
 |[],_=>trivial
 |_::_,⟨hk,⟨L,o,hf,hn,ho,hd⟩,hr⟩=>⟨hk,⟨L,o,hf,k L hn,ho,hd⟩,funs_sub k hr⟩
theorem hide_one{b:Addr}{o:Obj}(e:(hideAll B [C]).get? b=some o):B.get? b=some o/\b≠C:=
 ⟨of_hideAll _ e,λz=>by rw[z,PySem.W.hideAll_none [C] (mem_singleton.mpr rfl)]at e;cases e⟩
theorem hide_n{b:Addr}(e:B.get? b=none):(hideAll B [C]).get? b=none:=by
 cases q:(hideAll B [C]).get? b with
 |none=>rfl
 |some o=>rw[(hide_one q).1]at e;cases e
theorem noteFrame_frame{c d:Env}{e:Value}(h:c.frame=d.frame):noteFrame e c=noteFrame e d:=by
 unfold noteFrame PySem.frameOf;rw[h]
theorem fly_entry{s:Shared}(I:L2.Inv X pins σ H s)(hX:Xe X E)(hc:∀b o,b<X.aC.heap.objs.size->s.heap.get? b=some o->H b=none->b∉frs X.stack->B.get? b=some o)(hf:∀b o,b<X.aC.heap.objs.size->s.heap.get? b=some o->H b=none->H' b=none)(ht:∀b o,b<X.aC.heap.objs.size->s.heap.get? b=some o->b∉frs X.stack->∃o',B.get? b=some o')(t1:∀b xs,H b=some (.tup xs)->H' b=some (.tup xs))(t2:∀b o u,H b=some (.jt o u)->H' b=some (.jt o u))(t3:∀b ps,H b=some (.mj ps)->∃more,H' b=some (.mj (ps++more)))(hk:gA X.prog X.w H' B){os gens}(eo:os=s.os)(eg:AllBare gens){dr tk}(sl:∀b o,b<X.aC.heap.objs.size->s.heap.get? b=some o->H b=none->b∈frs X.outer->∃sl,h'.get? b=some {o with slots:=sl})(fl:FlyingW B X.outer a cls a0 h'):Fly X.prog X.w X.outer X.aq H' X.aC ⟨h',gens,dr,tk,os⟩ B a cls a0:=by
 have nx:∀b,b∉X.ex:=λb=>by rw[hX.ex];simp
 have DW:∀b o,X.aC.heap.get? b=some o->b∉frs X.outer->b∉frs X.stack:=λb o e n hb=>by
  rw[hX.frs]at hb;rcases mem_cons.mp hb with z|z
  ·have:=lt_of_lt_of_le (lt_size e) I.ok.above;rw[z]at this;exact absurd this (lt_irrefl _)
  ·exact n z
 refine⟨eo.trans I.os,eg,λb o e n hb=>?_,λb o e n hb=>?_,λb o e n=>?_,λb o e hb=>?_,λb xs e=>t1 b xs (I.base.tups b xs e),λb o u e=>t2 b o u (I.base.frzs b o u e),λb ps e=>?_,hk,fl⟩
 ·exact hc b o (lt_size e) (I.base.keep b o e n hb (nx b)) (I.base.free b o e n (nx b)) (DW b o e hb)
 ·obtain⟨Rx,e1⟩:=I.base.slot b o e n hb (nx b);obtain⟨qd,e2⟩:=sl b _ (lt_size e) e1 (I.base.free b o e n (nx b)) hb;exact⟨qd,e2⟩
 ·obtain⟨o',e1⟩:=I.base.there b o e (nx b);exact hf b o' (lt_size e) e1 (I.base.free b o e n (nx b))
 ·obtain⟨o',e1⟩:=I.base.there b o e (nx b);exact ht b o' (lt_size e) e1 (DW b o e hb)
 ·obtain⟨m1,e1⟩:=I.base.tbls b ps e;obtain⟨m2,e2⟩:=t3 b _ e1;exact⟨m1++m2,by rw[e2,Array.append_assoc]⟩
theorem noted_of(I2:L2.Inv X pins σ H2 bx)(hX:Xe X E)(hC:bx.heap.objs.size<=C)(f2:∀b∈fp,X.aC.heap.objs.size<=b){acc:Value}{Q:Value->Shared->Prop}{kF:Env}(Eu:kF.frame=X.env.frame){e:Value}(h:xeB X E fp C H2 bx e s'):notedBy (model X.prog X.w) X.A kF (λe jB=>compPost (model X.prog X.w) X.A X.xe none Q acc C (.error e) jB) e s':=by
 obtain⟨a,cls,a0,fl,H',B,rfl,F,hE⟩:=h;have kS:X.A.frames=some (X.env::X.outer):=by rw[I2.ok.frames,hX.stk]
 obtain⟨hp,g,d,tk,os⟩:=s';unfold notedBy;rw[noteFrame_frame Eu];refine notes_any kS hX.fr F.st F.en (hX.stk▸F.fr) F.tr λh1 held up1=>?_;obtain⟨m,o,es,ep,ho,hd,hr⟩:=F.ns;obtain⟨sl,RT⟩:=up1 C o ho (λvs q=>by rw[hd]at q;cases q);refine⟨m,⟨_,es,ep,RT,hd,hr⟩,λh' kC cenv2 _=>?_⟩;obtain⟨k1,k2,k3,oe,vs,T,oT,ts,he,⟨pH,h0⟩,Jg,Og,Ja,Jk,hT,uB,h3⟩:=held;have nv:∀{b:Addr} {ob:Obj} {ws:Array Value},h1.get? b=some ob->ob.data=.fields ws->b≠C:=fun{b ob ws} e1 e2 z=>by
  subst z;rw[RT]at e1;cases e1;rw[show o.data=_ from hd]at e2;cases e2
 have O6:h'.get? a=some oe:=(kC.2 a (nv he Jg)).trans he;have S8:h'.get? T=some oT:=(kC.2 T (nv hT uB)).trans hT;have Rk:3<ts.size:=(Array.getElem?_eq_some_iff.mp h3).1;unfold PySem.passOn;refine wpAny_bind (wpAny_field O6 Jg Og ?_);rw[if_neg (show ¬((Value.ref T==Value.none)=true) by simp)];have fin:∀v:Value,X.xe (.ref a) ⟨h'.update T (Obj.mapFields (·.setIfInBounds 3 v)),g,d,tk,os⟩:=λv=>by
  have RB:∀b,b≠T->(h'.update T (Obj.mapFields (·.setIfInBounds 3 v))).get? b=h'.get? b:=λb hb=>Heap.get?_update_other _ _ (Ne.symm hb);have RH:∀b ob,h1.get? b=some ob->(∀ws,ob.data≠.fields ws)->b≠T:=λb ob e1 e2 z=>by subst z;rw[hT]at e1;cases e1;exact e2 _ uB
  have kp:∀b ob,h1.get? b=some ob->b≠C->b≠T->(h'.update T (Obj.mapFields (·.setIfInBounds 3 v))).get? b=some ob:=λb ob e1 n1 n2=>(RB b n2).trans ((kC.2 b n1).trans e1);have nT:∀{b:Addr} {ob:Obj},B.get? b=some ob->b≠T:=fun{b ob} e1 z=>by rw[z,Ja]at e1;cases e1
  have Sn:∀b∈frs X.stack,b≠C:=λb hb z=>by
   obtain⟨_,ob,e1,_⟩:=I2.stack.mem hb;have:=lt_of_lt_of_le (lt_size e1) hC;rw[z]at this;exact absurd this (lt_irrefl _)
  refine hX.xe _ _ ?_;refine leaves_any (base:=hideAll B [C]) (fl:=v) (cls:=cls) (a0:=a0) kS hX.fr (λb ob e1=>?_) (hide_n F.en) ?_ ?_ λh3 Xw Vk=>?_
  ·obtain⟨e2,n2⟩:=hide_one e1;exact kp b ob (k1 b ob e2) n2 (nT e2)
  ·refine funs_sub (λb=>hide_n) ?_;have all:∀l:List Env,(∀b∈frs l,b∈frs X.stack)->h1.FunFrames B l->(h'.update T (Obj.mapFields (·.setIfInBounds 3 v))).FunFrames B l:=by
    intro l;induction l with
    |nil=>exact λ_ _=>trivial
    |cons env r ih=>
     intro hl ⟨hk,⟨L,ob,hf,hn,e1,Jh⟩,Wg⟩;have hL:L∈frs X.stack:=hl L (by unfold frs;rw[filterMap_cons,hf];exact mem_cons_self);exact⟨hk,⟨L,ob,hf,hn,kp L ob e1 (Sn L hL) (RH L ob e1 Jh),Jh⟩,ih (λb hb=>hl b (by unfold frs;rw[filterMap_cons,hf];exact mem_cons_of_mem _ hb)) Wg⟩
   exact all _ (by rw[hX.stk];exact λ_ z=>z) k3
  ·exact⟨oe,vs,T,_,_,(RB a (Ne.symm Jk)).trans O6,⟨pH,h0⟩,Jg,Og,hide_n Ja,Jk,Heap.get?_update_self _ S8 (Obj.isFreed_of_fields (Obj.data_mapFields uB _)),Obj.data_mapFields uB _,by simp[Rk]⟩
  ·refine⟨a,cls,a0,H',hideAll B [C],rfl,?_,hE⟩;have B8:∀b,b<X.aC.heap.objs.size->b≠C/\b∉fp:=λb hb=>⟨λz=>absurd (lt_of_lt_of_le hb (le_trans I2.sz hC)) (by rw[z];exact lt_irrefl _),λz=>absurd (lt_of_lt_of_le hb (f2 b z)) (lt_irrefl _)⟩;refine fly_entry I2 hX (λb ob hb e1 n h2=>hideAll_get _ (F.cov b ob e1 n h2 (B8 b hb).2) (by simpa using(B8 b hb).1)) (λb ob hb e1 n=>F.free b ob e1 n (B8 b hb).2) (λb ob hb e1 h2=>?_) F.tups F.frzs F.tbls (λb ob e1=>?_) F.os F.bare (λb ob hb e1 n h2=>?_) Xw
   ·obtain⟨o',e2⟩:=F.there b ob e1 h2 (B8 b hb).2;exact⟨o',hideAll_get _ e2 (by simpa using(B8 b hb).1)⟩
   ·refine(F.hok b ob e1).mW (λc u uD q=>hideAll_get _ q λhm=>?_) (λ_ z=>z) λ_ _ z=>z;have S4:c=C:=by simpa using hm
    have:=F.nc;rcases uD with z|z
    ·rw[<- S4,z,e1]at this;cases this
    ·rw[<- S4,z]at this;cases this
   ·have S5:b∈frs X.stack:=by rw[hX.frs];exact mem_cons_of_mem _ h2
    have Ni:=I2.notF e1 h2;obtain⟨s1,e2⟩:=F.slot b ob e1 n S5 (B8 b hb).2;obtain⟨s2,e3⟩:=up1 b _ e2 (λws q=>Ni ws q);have e4:=kp b _ e3 (Sn b S5) (RH b _ e3 λws q=>Ni ws q);obtain⟨s3,e5⟩:=Vk b _ e4 (λws q=>Ni ws q);exact⟨s3,e5⟩
 unfold setFlight;refine wpAny_bind (wpAny_bind (wpAny_field O6 Jg Og ?_));rw[if_pos (show(Value.ref T !=Value.none)=true by simp)];exact wpAny_setField S8 uB Rk (wpAny_throw (fin _))
end
end L3
namespace L2
noncomputable section
open PySem PySem.Spec PyProof.Rows
open L3 (blkX xeB CXF Xe noted_of passB)
variable {X:Cx} {elt tg iter:Expr} {ifs:List Expr} {scope:Scope} {cl:List (Str×Addr)} {pos:Pos} {N':List Str} {EE:XK}
theorem compX_core{own:Option Str}{cap:List (Option Nat)}{g:TG}{jA:TT}{te:TE}{pins:List (Addr×Obj)}{σ:St}{H2:Hp}{bx:Shared}{it:Addr}{fp:List Addr}{tn:Nat->Heap->Prop}{J:It}{Q:VK}{W:Nat->Nat->List V->Hp->Prop}{m0:Nat}{RR:Value->Addr->Result->Shared->Prop}{E:Value->Shared->Prop}(hc:X.calm=true)(B:vY X scope own cl N' cap)(hg:∀C aC aq ex,PG (blkX X EE scope own cl N' C aC aq ex) tg g)(ht:∀C aC aq ex,qU (blkX X EE scope own cl N' C aC aq ex) ifs jA)(he:∀C aC aq ex,Passes (CXF X.prog X.w) (blkX X EE scope own cl N' C aC aq ex) EE->PE (blkX X EE scope own cl N' C aC aq ex) elt te)(I2:Inv X pins σ H2 bx)(T:Turn X.prog X.w X.K tg J fp it tn)(lF:tn 0 bx.heap)(f2:∀b∈fp,lq X pins H2 b)(w0:W 0 m0 [] H2)(turn:∀i m ys H,W i m ys H->ys.length<sizeLine/\((J.stop i H/\∀D,H D=none->Q (.ref D) (upd H D (.lst ys)))\/(J.go i H/\∀x H',J.oh i H x H'->g x (cn cap σ) H' λdU H2=>fg (cn cap σ) dU/\jA dU H2 λb H3=>if b=true then te dU H3 λv H4=>∃m',m'<m/\W (i+1) m' (ys++[v]) H4 else ∃m',m'<m/\W (i+1) m' ys H3)))(NJ:∀D C e s',bx.heap.objs.size<=C->xeB X EE fp C H2 bx e s'->notedBy (model X.prog X.w) X.A (compEnvC scope (jx own C cl) C X.env) (λe jB=>RR (.ref D) C (.error e) jB) e s')(fin:∀(D C:Addr) (s4:Shared) (H':Hp) (ys:List V) (aA:List Value) (k:Nat),bx.heap.objs.size=D->D<=C->D≠C->Inv (blkX X EE scope own cl N' C bx H2 fp) [(D,{cls:=.type "list",data:=.seq aA.toArray k})] (cn cap σ) H' s4->H' D=none->Vals ys aA->ys.length<sizeLine->(∀D,H' D=none->Q (.ref D) (upd H' D (.lst ys)))->RR (.ref D) C (.ok .next) s4):
  wpAny (model X.prog X.w) X.A (newList []) (λacc hJ=>wpAny (model X.prog X.w) X.A (newFunctionEnv scope X.env.globals cl [] X.env.qual none .none (some X.env)) (λkF vi=>codeAny (model X.prog X.w) X.A (.compStart (.ListComp elt [⟨tg,iter,ifs,0⟩] scope pos) 0 (.ref it) acc {kF with scope:=relabel scope X.env}) (RR acc kF.locals) vi) E hJ) E bx:=by
 refine wpAny_newObj_type (B5 B.cf B.pc λkF Eu uC=>?_);rw[Eu,uC];dsimp only;generalize zA:bx.heap.push {cls:=.type "list",dict:=none,data:=.seq ([]:List Value).toArray}=HH;have hC:HH.objs.size=bx.heap.objs.size+1:=by rw[<- zA,size_push]
 have Ob:bx.heap.objs.size≠HH.objs.size:=by rw[hC];exact ne_of_lt (Nat.lt_succ_self _)
 generalize Er:rO own (HH.push {cls:=.type "dict",data:=.dict #[]})=fN;have sW:∀b o,(HH.push {cls:=.type "dict",data:=.dict #[]}).get? b=some o->fN.get? b=some o:=λb o e=>by rw[<- Er];exact xa own e
 have old:∀b o,bx.heap.get? b=some o->fN.get? b=some o:=λb o e=>sW b o (get?_push_of_some _ (by rw[<- zA];exact get?_push_of_some _ e));have Ho:fN.get? bx.heap.objs.size=some {cls:=.type "list",data:=.seq ([]:List Value).toArray}:=sW _ _ (get?_push_of_some _ (by rw[<- zA];exact get?_push_size _ rfl));have zq:fN.Ns HH.objs.size (λ_=>none):=(Ns.new HH (.type "dict")).keeps sW;have rL:∀y,own=some y->fN.get? (HH.objs.size+1)=some {cls:=.type "cell",data:=.cell none}:=λy hy=>by
  rw[<- Er,hy,show HH.objs.size+1=(HH.push {cls:=.type "dict",data:=.dict #[]}).objs.size from(size_push ..).symm];exact get?_push_size _ rfl
 have fW:bx.heap.objs.size<=HH.objs.size:=by rw[hC];exact le_succ _
 generalize hD:bx.heap.objs.size=D at *;generalize X5:HH.objs.size=C at *

 have uG:∀b∈fp,b<D:=λb hb=>by
  obtain⟨o,e,_⟩:=T.obj _ _ lF b hb;rw[<- hD];exact lt_size e
 have pK:∀x c,cl.lookup x=some c->c<D:=λx c e=>by
  obtain⟨v,q⟩:=I2.cell x c (B.sub x c e);rw[<- hD];exact q.lt
 have lk:∀y c,(jx own C cl).lookup y=some c->(own=some y/\c=C+1)\/cl.lookup y=some c:=λy c e=>DH e;have E8:∀y c,own≠some y->cl.lookup y=some c->(jx own C cl).lookup y=some c:=λy c h e=>B0 h e;have Cr:∀y c,(jx own C cl).lookup y=some c->c≠D:=λy c e=>by
  rcases lk y c e with⟨_,z⟩|z
  ·rw[z];exact ne_of_gt (Nat.lt_succ_of_le fW)
  ·exact ne_of_lt (pK y c z)
 have Oo:∀b∈frs X.stack,b∈X.env.locals::X.fs:=λb hb=>I2.tR b hb;have ok:(blkX X EE scope own cl N' C bx H2 fp).Ok:=by
  refine⟨I2.mod,B.kind,I2.ok.glob,I2.ok.blt,?_,?_,?_,?_,I2.ok.hd,I2.ok.frames,.inl rfl,λb hb=>⟨?_,λx c e z=>?_⟩,I2.bs,le_trans I2.ok.xb I2.sz,λb o e hb=>?_,λb hb hf=>?_,I2.stack,I2.rj⟩
  ·show bx.heap.objs.size<=C;rw[hD];exact fW
  ·intro x y c h1 h2;rcases lk x c h1 with⟨a1,b1⟩|z1<;>rcases lk y c h2 with⟨a2,b2⟩|z2
   ·rw[a1]at a2;exact Option.some.inj a2
   ·have:=pK y c z2;exact absurd (lt_of_lt_of_le this fW) (by rw[b1];exact not_lt.mpr (le_succ _))
   ·have:=pK x c z1;exact absurd (lt_of_lt_of_le this fW) (by rw[b2];exact not_lt.mpr (le_succ _))
   ·exact I2.ok.inj x y c (B.sub x c z1) (B.sub y c z2)
  ·intro y hy;rcases B.has y hy with h|⟨c,e⟩
   ·exact⟨C+1,ud h⟩
   ·by_cases h:own=some y
    ·exact⟨C+1,ud h⟩
    ·exact⟨c,E8 y c h e⟩
  ·intro y c hf e;rcases lk y c e with⟨_,z⟩|z
   ·rw[z,hD];exact le_succ_of_le fW
   ·rw[B.RC y (DI hf)]at z;cases z
  ·exact ne_of_lt (lt_of_lt_of_le (uG b hb) fW)
  ·rcases lk x c e with⟨_,q⟩|q
   ·rw[q]at z;exact ne_of_lt (lt_of_lt_of_le (uG b hb) (le_succ_of_le fW)) z.symm
   ·exact(f2 b hb).2.2.2.2.1 x c (B.sub x c q) z
  ·have h1:=f2 b hb;rcases h1.2.2.2.1 with z|z
   ·exact I2.ok.vE b o e z
   ·have h2:=(I2.ok.bs b o e).1;exact absurd (lt_of_lt_of_le (lt_size h2) z) (lt_irrefl _)
  ·rcases mem_cons.mp (Oo b hf)with z|z
   ·exact(f2 b hb).2.1 z
   ·exact(f2 b hb).2.2.1 z
 have nG:∀a,D<=a->H2 a=none:=λa ha=>I2.hok.fresh (by rw[hD];exact ha);have I4:Inv (blkX X EE scope own cl N' C bx H2 fp) [] (cn cap σ) H2 {bx with heap:=fN}:=by
  refine⟨ok,rfl,I2.bare,Un.kept old,⟨_,zq,λi x v e1 e2 e3=>?_⟩,λx c e=>?_,nG C fW,λx c e=>?_,λp hp=>absurd (show p∈([]:List (Addr×Obj))from hp) (by simp),I2.hok.kept old,?_⟩
  ·have OH:N'[i]?=some x:=e1;unfold cn at e2;rw[getElem?_map]at e2;cases sZ:cap[i]? with
   |none=>rw[sZ]at e2;cases e2
   |some o=>
    rw[sZ]at e2;cases o with
    |none=>cases e2
    |some j=>
     obtain⟨hN,hv,hk,Bd,Be⟩:=B.cap i x j OH sZ;have e4:σ[j]?=some (some v):=by
      have e5:some ((σ[j]?).join)=some (some v):=e2;cases hq:σ[j]? with
      |none=>rw[hq]at e5;cases e5
      |some q=>rw[hq]at e5;exact e5
     obtain⟨m,hn,hl⟩:=I2.loc;obtain⟨u,r,l⟩:=hl j x v hN e4 hv;refine⟨u,r,.inr ⟨hk,?_⟩⟩;rcases l with⟨k,_⟩|⟨k,c,uC,o,ho,hd⟩
     ·exact absurd k Bd
     ·obtain⟨c',wO⟩:=(B.has x hk).resolve_left Be;have e6:=B.sub x c' wO;rw[uC]at e6;cases e6;exact⟨c,E8 x c Be wO,o,old c o ho,hd⟩
  ·rcases lk x c e with⟨q,z⟩|z
   ·rw[z];exact⟨none,_,rL x q,rfl⟩
   ·obtain⟨v,o,ho,hd⟩:=I2.cell x c (B.sub x c z);exact⟨v,o,old c o ho,hd⟩
  ·rcases lk x c e with⟨_,z⟩|z
   ·rw[z];exact nG _ (le_succ_of_le fW)
   ·exact I2.jq x c (B.sub x c z)
  ·show(cn cap σ).length=N'.length;unfold cn;rw[length_map];exact B.len
 have l9:D≠C:=Ob;have OQ:D∉frs X.stack:=λhb=>by
  obtain⟨_,o,ho,_⟩:=I2.stack.mem hb;have:=lt_size ho;rw[hD]at this;exact absurd this (lt_irrefl _)
 have mX:∀{P:List (Addr×Obj)} {H':Hp},(∀p∈P,p.1=D)->(∀b∈fp,H' b=none)->∀b∈fp,lq (blkX X EE scope own cl N' C bx H2 fp) P H' b:=λhP hn b hb=>
  ⟨hn b hb,(ok.Bs b hb).1,ok.vL b hb,.inl hb,(ok.Bs b hb).2,λp hp z=>by
   have nA:p∈_:=hp;rw[hP p (by simpa using nA)]at z;exact ne_of_gt (uG b hb) z⟩
 have loop:∀hJ:Shared,hJ={bx with heap:=fN}->
   codeAny (model X.prog X.w) X.A (.compLoop (.ListComp elt [⟨tg,iter,ifs,0⟩] scope pos) 0 (.ref it) (.ref D) (compEnvC scope (jx own C cl) C X.env)) (RR (.ref D) C) hJ:=by
  rintro hJ rfl;refine qK (λn s'=>∃i ys aA H' k,Inv (blkX X EE scope own cl N' C bx H2 fp) [] (cn cap σ) H' s'/\tn i s'.heap/\(∀b∈fp,H' b=none)/\H' D=none/\s'.heap.get? D=some {cls:=.type "list",data:=.seq (aA:List Value).toArray k}/\Vals ys aA/\W i n ys H') ?_ m0
   ⟨0,[],[],H2,0,I4,T.keep _ _ _ lF λb _ o e=>old b o e,λb hb=>(f2 b hb).1,nG D (le_refl _),Ho,.nil,w0⟩
  rintro n s' ⟨i,ys,aA,H',k,Ia,CW,EC,iq,Oa,rv,wa⟩;obtain⟨hsz,tu⟩:=turn i n ys H' wa;have Ib:Inv (blkX X EE scope own cl N' C bx H2 fp) [(D,{cls:=.type "list",data:=.seq aA.toArray k})] (cn cap σ) H' s':=Ia.jZ λp hp=>by
   have nA:p=(D,{cls:=.type "list",data:=.seq aA.toArray k}):=by simpa using hp
   subst nA;exact⟨Oa,iq,l9,OQ,λv z=>nomatch z⟩
  have zy:∀p∈[((D,{cls:=.type "list",data:=.seq aA.toArray k}):Addr×Obj)],p.1=D:=λp hp=>by
   have nA:p=(D,{cls:=.type "list",data:=.seq aA.toArray k}):=by simpa using hp
   rw[nA]
  rcases tu with⟨stop,qn⟩|⟨go,step⟩
  ·refine wpAny_mono (T.done (blkX X EE scope own cl N' C bx H2 fp) rfl rfl rfl hc i _ s' (cn cap σ) H' (λ_ _=>False) Ib (mX zy EC) CW stop) (λr s4 zo=>?_) λ_ _ z=>z.elim;obtain⟨hr,Ic⟩:=zo;subst hr;exact fin D C s4 H' ys aA k rfl fW l9 Ic iq rv hsz qn
  ·refine wpAny_mono (T.item (blkX X EE scope own cl N' C bx H2 fp) rfl rfl rfl hc i _ s' (cn cap σ) H' (λ_ _=>False) Ib (mX zy EC) CW go) (λr s4 zo=>?_) λ_ _ z=>z.elim;obtain⟨u,hr,h4⟩:=zo;subst hr;refine wpAny_mono h4 (λ_ s5 h5=>?_) λ_ _ z=>z.elim;obtain⟨x,H5,I5,r5,y5,q9,ED⟩:=h5;have FZ:=I5.pinned (mX zy ED) (T.obj _ _ q9);refine wpAny_mono (hg C bx H2 fp _ s5 (cn cap σ) H5 x u _ FZ r5 (step x H5 y5)) (λ_ s6 h6=>?_) λev sv z=>NJ D C ev sv fW z;obtain⟨tK,H6,I6,uo,q6⟩:=h6;refine wpAny_mono (ht C bx H2 fp _ s6 tK H6 _ I6 q6) (λb s7 h7=>?_) λev sv z=>NJ D C ev sv fW z;obtain⟨H7,I7,q7⟩:=h7

   have back:∀{bD:St} {qV:Hp} {jB:Shared},Inv (blkX X EE scope own cl N' C bx H2 fp) ([((D,{cls:=.type "list",data:=.seq aA.toArray k}):Addr×Obj)]++oz fp s5.heap) bD qV jB->
     jB.heap.get? D=some {cls:=.type "list",data:=.seq aA.toArray k}/\qV D=none/\(∀b∈fp,qV b=none)/\tn (i+1) jB.heap:=fun{bD qV jB} Iz=>by
    have pz:=λp hp=>Iz.pin p (mem_append_right _ hp);have pD:=pz (D,{cls:=.type "list",data:=.seq aA.toArray k}) (mem_append_left _ mem_cons_self);refine⟨pD.1,pD.2.1,λb hb=>?_,T.keep _ _ _ q9 λb hb o e=>(pz (b,o) (mem_append_right _ (jk hb e))).1⟩;obtain⟨o,e,_⟩:=T.obj _ _ q9 b hb;exact(pz (b,o) (mem_append_right _ (jk hb e))).2.1
   have hits:aA.length=ys.length:=rv.length.symm;cases b with
   |false=>
    rw[if_neg Bool.false_ne_true]at q7 ⊢;obtain⟨m',hm,w7⟩:=q7;obtain⟨b1,b2,b3,b4⟩:=back I7;exact⟨m',hm,i+1,ys,aA,H7,k,(I7.jZ (pins':=[]) λp hp=>absurd hp (by simp)).weak uo.len uo.get,b4,b3,b2,b1,rv,w7⟩
   |true=>
    rw[if_pos rfl]at q7 ⊢;refine wpAny_mono (he C bx H2 fp passB _ s7 tK H7 _ I7 q7) (λy s8 h8=>?_) λev sv z=>NJ D C ev sv fW z;obtain⟨v,H8,I8,r8,m',hm,w8⟩:=h8;obtain⟨b1,b2,b3,b4⟩:=back I8;refine wpAny_list_append_plain (l:=D) (items:=aA.toArray) (hsz:=by rw[size_toArray];omega) ⟨k,b1⟩ λh' fV kC=>?_;obtain⟨k',e'⟩:=fV;have I9:Inv (blkX X EE scope own cl N' C bx H2 fp) [] tK H8 {s8 with heap:=h',toks:=s8.toks}:=(I8.jZ (pins':=[]) λp hp=>absurd hp (by simp)).turned (it:=D) (λb o hb e=>(kC.2 b hb).trans e) b2 l9 (.inr (Nat.le_of_eq hD))
     (λx c e=>Cr x c e) (λp hp=>absurd (show p∈([]:List (Addr×Obj))from hp) (by simp))
    refine⟨m',hm,i+1,ys++[v],aA++[y],H8,k',I9.weak uo.len uo.get,T.keep _ _ _ b4 λb hb o e=>(kC.2 b (ne_of_lt (uG b hb))).trans e,b3,b2,?_,rv.append (.cons r8 .nil),w8⟩;have EM:h'.get? D=_:=e';rw[List.push_toArray]at EM;exact EM
 exact codeAny_compStart_list (loop _ rfl) (T.self X.A 0 _ _ _ (T.keep _ _ _ lF λb _ o e=>old b o e) (loop _ rfl))
theorem pe_compX{own:Option Str}{cap:List (Option Nat)}{wi:TI}{g:TG}{jA:TT}{te:TE}(hX:Xe X EE)(hc:X.calm=true)(B:vY X scope own cl N' cap)(hi:PI X tg iter wi)(hg:∀C aC aq ex,PG (blkX X EE scope own cl N' C aC aq ex) tg g)(ht:∀C aC aq ex,qU (blkX X EE scope own cl N' C aC aq ex) ifs jA)(he:∀C aC aq ex,Passes (CXF X.prog X.w) (blkX X EE scope own cl N' C aC aq ex) EE->PE (blkX X EE scope own cl N' C aC aq ex) elt te)(hs:∀x,foldedSetIterable iter X.env x=pure x:=by intro _;rfl):PE X (.ListComp elt [⟨tg,iter,ifs,0⟩] scope pos) (nM cap wi g jA te):=by
 intro pins s σ H Q I h;rw[eval_ListComp];refine wpAny_comprehension_free (use:=none) rfl hs B.clos B.kind B.names (bP (hi pins s σ H _ I h) λxv bX fN=>bP fN λEb bx nz=>?_);obtain⟨it,fp,tn,J,H2,e,I2,T,lF,f2,W,⟨m0,w0⟩,turn⟩:=nz;subst e;refine compX_core (RR:=λacc C=>compPost (model X.prog X.w) X.A X.xe none (EP X pins σ Q) acc C) hc B hg ht he I2 T lF f2 w0 turn (λD C ev sv X2 z=>noted_of I2 hX X2 (λb hb=>((f2 b hb).2.2.2.1).resolve_left (by rw[hX.ex];simp)) rfl z) λD C s4 H' ys aA k hD fW l9 Ic iq rv hsz qn=>?_;obtain⟨m,hn,_⟩:=Ic.loc;refine⟨m,hn,λh' kC=>?_⟩;have zB:s4.heap.get? D=some {cls:=.type "list",data:=.seq aA.toArray k}:=(Ic.pin (D,_) (by simp)).1;have zC:H' C=none:=Ic.free;have un:Un (frs X.stack) fp H2 (upd H' D (.lst ys)) bx.heap h':=by
  have bs:=Ic.base;have nv:∀b o,bx.heap.get? b=some o->h'.get? b=s4.heap.get? b:=λb o e=>by
   have:b<D:=by rw[<- hD];exact lt_size e
   exact kC.2 b (ne_of_lt (lt_of_lt_of_le this fW))
  refine⟨λb o e n h1 h2=>(nv b o e).trans (bs.keep b o e n h1 h2),λb o e n h1 h2=>?_,λb o e n h2=>?_,λb o e h2=>?_,λb xs e=>?_,λb o u e=>?_,λb ps e=>?_⟩
  ·obtain⟨sl,q⟩:=bs.slot b o e n h1 h2;exact⟨sl,(nv b o e).trans q⟩
  ·have:b<D:=by rw[<- hD];exact lt_size e
   rw[bF (ne_of_lt this)];exact bs.free b o e n h2
  ·obtain⟨o',q⟩:=bs.there b o e h2;exact⟨o',(nv b o e).trans q⟩
  ·have q:=bs.tups b xs e;rw[bF (aU q iq)];exact q
  ·have q:=bs.frzs b o u e;rw[bF (aU q iq)];exact q
  ·obtain⟨more,q⟩:=bs.tbls b ps e;exact⟨more,by rw[bF (aU q iq)];exact q⟩
 have hok:gA X.prog X.w (upd H' D (.lst ys)) h':=λb u e=>by
  by_cases hb:b=D
  ·subst hb;rw[d5]at e;cases e;exact⟨le_of_lt hsz,aA,k,rv,(kC.2 _ (by show _≠C;exact l9)).trans zB⟩
  ·rw[bF hb]at e;refine(Ic.hok b u e).mW (λc v uD q=>(kC.2 c ?_).trans q) (λc q=>by rw[bF (aU q iq)];exact q) λc xs q=>by rw[bF (aU q iq)];exact q
   rcases uD with z|z
   ·rw[z];exact aU e zC
   ·exact aU z zC
 have If:=I2.uP (s':={s4 with heap:=h'}) (H':=upd H' D (.lst ys)) (ch:=fp) Ic.os un hok Ic.bare λb hb=>⟨(f2 b hb).2.2.2.1,(f2 b hb).2.1,(f2 b hb).2.2.2.2.1,(f2 b hb).2.2.2.2.2⟩;exact⟨.ref D,_,If,rfl,qn D iq⟩
end
end L2
namespace L3
noncomputable section
open PySem PySem.Spec PyProof.Rows L2
open PySem.W (Dat kqdOk)
noncomputable def tOrE (t u:TE):TE:=λσ H Q=>t σ H Q\/u σ H Q
variable {X:Cx} {e:Expr}
theorem pe_or{t u:TE}(h1:PE X e t)(h2:PE X e u):PE X e (tOrE t u):=λpins s σ H Q I q=>q.elim (h1 pins s σ H Q I) (h2 pins s σ H Q I)
noncomputable def xCompL (gt:Dat->Option dH) (ft:ay->Option Bool) (fe:ay->Option Dat) (ge:ay->Bool) (ρ0:ay):List Dat->Bool
 |[]=>false
 |d::r=>match gt d with
  |some as=>(match ft (j5 ρ0 as)with
   |some true=>ge (j5 ρ0 as) || ((fe (j5 ρ0 as)).isSome&&xCompL gt ft fe ge ρ0 r)
   |some false=>xCompL gt ft fe ge ρ0 r
   |none=>false)
  |none=>false
noncomputable def xComp (cap:List (Option Nat)) (gt:Dat->Option dH) (ft:ay->Option Bool) (fe:ay->Option Dat) (ge:ay->Bool) (fi:ay->Option Dat):ay->Bool:=λρ=>match (fi ρ).bind j8 with
 |some ds=>decide (ds.length<sizeLine)&&xCompL gt ft fe ge (gf cap ρ) ds
 |none=>false
variable {Hx:Hp} {gt:Dat->Option dH} {ft:ay->Option Bool} {fe fi:ay->Option Dat} {ge:ay->Bool}
theorem tCompRe{K:Fg}{cap:List (Option Nat)}(ht:mh gt cap):
  ∀σ H Q,tRe K Hx (xComp cap gt ft fe ge fi) σ H Q->nM cap (Hk K (tF K fi)) (iN K gt) (jT K ft) (tOrE (tF K fe) (tRe K Hx ge)) σ H Q:=by
 rintro σ H Q ⟨Av,ρ,hA,hE,sx,hf⟩;unfold xComp at hf;split at hf
 ·rename_i ds e;obtain⟨d,e1,e2⟩:=bind_some e;obtain⟨hz,hf⟩:=and_eq_true_iff.mp hf;have hz:=of_decide_eq_true hz;refine⟨Av,ρ,d,hA,hE,e1,λx H1 s1 r=>?_⟩;have main:∀J:It,Over K J x d ds->∃W:Nat->Nat->List V->Hp->Prop,(∃m,W 0 m [] H1)/\∀i m ys H,W i m ys H->ys.length<sizeLine/\
    ((J.stop i H/\∀D,H D=none->Q (.ref D) (upd H D (.lst ys)))\/
     (J.go i H/\∀x H',J.oh i H x H'->iN K gt x (cn cap σ) H' λdU H2=>fg (cn cap σ) dU/\jT K ft dU H2 λb H3=>if b=true then tOrE (tF K fe) (tRe K Hx ge) dU H3 λv H4=>∃m',m'<m/\W (i+1) m' (ys++[v]) H4 else ∃m',m'<m/\W (i+1) m' ys H3)):=by
   intro J ov;refine⟨λi m ys H2=>m=ds.length-i/\i<=ds.length/\aO H1 H2/\ys.length<=i/\xCompL gt ft fe ge (gf cap ρ) (ds.drop i)=true,⟨_,rfl,zero_le _,aO.refl _,le_refl _,by rw[drop_zero];exact hf⟩,?_⟩;rintro i m ys H2 ⟨rfl,hi,s2,hl,hc⟩;refine⟨by omega,?_⟩;have rx:=r.same s2;cases gO:ds[i]? with
   |none=>
    rw[drop_eq_nil_of_le (List.getElem?_eq_none_iff.mp gO)]at hc;cases hc
   |some di=>
    have lO:=j9 gO;rw[drop_cons gO]at hc;unfold xCompL at hc;split at hc
    ·rename_i as a1;obtain⟨go,yl⟩:=(ov i H2 _ rx).2 di gO;refine .inr ⟨go,λy H' hy=>?_⟩;obtain⟨eH,ry⟩:=yl y H' hy;subst eH;refine⟨Av,di,as,ry,a1,λws hw=>?_⟩;have cs:∀p∈as,(cn cap σ)[p.1]?=some none:=λp hp=>by
      unfold cn;rw[getElem?_map,ht di as a1 p hp];rfl
     have A2:=hA.same (s1.trans s2);have E2:fD K H' Av (o4 (cn cap σ) ws) (j5 (gf cap ρ) as):=fD.gJ hw (by unfold cn gf;rw[length_map,length_map]) ((hE.same (s1.trans s2)).cap cap);split at hc
     ·rename_i a2;refine⟨fg.gJ hw cs (fg.refl _),Av,_,true,A2,E2,a2,λH3 s3=>?_⟩;show if true=true then _ else _;rw[if_pos rfl];rcases or_eq_true_iff.mp hc with hc|hc
      ·exact .inr ⟨Av,_,A2.same s3,E2.same s3,sx.trans (s1.trans (s2.trans s3)),hc⟩
      ·obtain⟨h1,h2⟩:=and_eq_true_iff.mp hc;obtain⟨dv,a3⟩:=isSome_iff_exists.mp h1;exact .inl ⟨Av,_,dv,A2.same s3,E2.same s3,a3,λv H4 s4 rv=>⟨ds.length-(i+1),by omega,rfl,by omega,s2.trans (s3.trans s4),by rw[length_append,length_singleton];omega,h2⟩⟩
     ·rename_i a2;refine⟨fg.gJ hw cs (fg.refl _),Av,_,false,A2,E2,a2,λH3 s3=>?_⟩;show if false=true then _ else _;rw[if_neg Bool.false_ne_true];exact⟨ds.length-(i+1),by omega,rfl,by omega,s2.trans s3,by omega,hc⟩
     ·cases hc
    ·cases hc
  cases d with
  |list jH=>
   cases e2;obtain⟨a,xs,rfl,hq,rs⟩:=r.eZ;exact⟨a,rfl,.inl ⟨⟨xs,hq.sq⟩,main _ lK⟩⟩
  |tuple jH=>
   cases e2;obtain⟨a,xs,rfl,hq,rs⟩:=r.gI;exact⟨a,rfl,.inr ⟨⟨xs,hq.sq⟩,main _ nq⟩⟩
  |_=>cases e2
 ·cases hf
variable {C:Addr} {es:List Expr} {EE:XK} {x:Str} {pos p:Pos} {n:Nat} {ps:List Str} {R:List Dat->Addr->Bool}
variable {fs:ay->Option (List Dat)} in
theorem re_callP{k:Nat}(hp:Passes (CXF X.prog X.w) X EE)(hA:∀H',aO Hx H'->EE (.ref C) none H')(D:DnX X.prog X.w X.K X.mg X.base k x ps n R)(hr:cj k X.A)(ha:FX X (e::es) fs)(hg:Gl X x:=by rfl)(fO:(x==("__debug__" : Str))=false:=by decide)(he:starEach (e::es) X.env=(false,eval e X.env)::starEach es X.env:=by rfl)(bW:(backTo pos (starEach es X.env)).any (·.1)=false:=by rfl):PE X (.Call (.Name x p) (e::es) [] pos) (tRe X.K Hx (xFn n R C fs)):=by
 obtain⟨f,fd,h1,h2,h3,h4⟩:=D.ex;refine bA (mO h1 hr hg h2 h3 h4 .nil hp ha fO he bW) λσ H Q ⟨Av,ρ,wQ,hE,sm,hg⟩=>?_;unfold xFn at hg;split at hg
 ·rename_i ds e1;obtain⟨g1,g2⟩:=and_eq_true_iff.mp hg;exact⟨Av,ρ,ds,wQ,hE,e1,λxs H1 s1 r1=>⟨Av,ds,C,wQ.same s1,by rw[append_nil];exact r1,of_decide_eq_true g1,g2,λH' s'=>hA H' (sm.trans (s1.trans s'))⟩⟩
 ·cases hg
variable {tg iter:Expr}
theorem re_comp{elt:Expr}{ifs:List Expr}{scope:Scope}{cl:List (Str×Addr)}{N':List Str}{cap:List (Option Nat)}(hX:Xe X EE)(hc:X.calm=true)(B:pU X scope cl N' cap)(hi:PF X iter fi)(hg:∀C aC aq ex,PG (blkX X EE scope none cl N' C aC aq ex) tg (iN X.K gt))(ht:∀C aC aq ex,qU (blkX X EE scope none cl N' C aC aq ex) ifs (jT X.K ft))(he:∀C aC aq ex,PF (blkX X EE scope none cl N' C aC aq ex) elt fe)(hr:∀C aC aq ex,Passes (CXF X.prog X.w) (blkX X EE scope none cl N' C aC aq ex) EE->PE (blkX X EE scope none cl N' C aC aq ex) elt (tRe X.K Hx ge))(hT:mh gt cap)(hs:∀x,foldedSetIterable iter X.env x=pure x:=by intro _;rfl):PE X (.ListComp elt [⟨tg,iter,ifs,0⟩] scope pos) (tRe X.K Hx (xComp cap gt ft fe ge fi)):=
 bA (pe_compX hX hc B.g (qp hi) hg ht (λC aC aq ex hp=>pe_or (he C aC aq ex) (hr C aC aq ex hp)) hs) (tCompRe hT)
open PySem PySem.Spec PyProof.Rows L2
open PySem.W (Dat kqdOk)
noncomputable def tRa (K:Fg) (Hx:Hp) (g:ay->Bool):TA:=λσ H _=>∃Av ρ,ij H Av/\fD K H Av σ ρ/\aO Hx H/\g ρ=true
noncomputable def tNo:TE:=λ_ _ _=>False
theorem pe_no:PE X e tNo:=λ_ _ _ _ _ _ h=>h.elim
theorem pa_no:PA X es (λ_ _ _=>False):=λ_ _ _ _ _ _ _ h=>h.elim
variable {fa:ay->Option Dat}
variable {g:ay->Bool} in
noncomputable def yAnd (fa:ay->Option Dat) (g:ay->Bool):ay->Bool:=λρ=>(fa ρ).isSome&&g ρ
noncomputable def yNo:ay->Bool:=λ_=>false
noncomputable def yOr (g1 g2:ay->Bool):ay->Bool:=λρ=>g1 ρ || g2 ρ
variable {g:ay->Bool} in
theorem ra_hd(h:PE X e (tRe X.K Hx g))(hs:starEach (e::es) X.env=(false,eval e X.env)::starEach es X.env:=by rfl):PA X (e::es) (tRa X.K Hx g):=λps pins s σ H Q I q=>
 bR h pa_no hs ps pins s σ H Q I q
variable {g:ay->Bool} in
theorem ra_tl(h:PF X e fa)(h2:PA X es (tRa X.K Hx g))(hs:starEach (e::es) X.env=(false,eval e X.env)::starEach es X.env:=by rfl):PA X (e::es) (tRa X.K Hx (yAnd fa g)):=λps pins s σ H Q I aT=>by
 obtain⟨Av,ρ,hA,hE,sm,q⟩:=aT;obtain⟨q1,q2⟩:=and_eq_true_iff.mp q;obtain⟨d,e1⟩:=isSome_iff_exists.mp q1;exact bR h h2 hs ps pins s σ H Q I ⟨Av,ρ,d,hA,hE,e1,λv H1 s1 _=>⟨Av,ρ,hA.same s1,hE.same s1,sm.trans s1,q2⟩⟩
variable {g:ay->Bool} in
theorem re_tup{k}(h:PA X es (tRa X.K Hx g)):PE X (.Tuple es k pos) (tRe X.K Hx g):=bA (yM h) λ_ _ _ q=>q
variable {ga gb:ay->Bool}
noncomputable def yIf (ft:ay->Option Bool) (ga gb:ay->Bool):ay->Bool:=λρ=>match ft ρ with
 |some true=>ga ρ
 |some false=>gb ρ
 |none=>false
variable {c b a:Expr}
theorem re_ifExp(hc:JH X c ft)(ha:PE X a (tRe X.K Hx ga))(hb:PE X b (tRe X.K Hx gb)):PE X (.IfExp c a b pos) (tRe X.K Hx (yIf ft ga gb)):=bA (yO hc ha hb) λσ H Q aT=>by
 obtain⟨Av,ρ,hA,hE,sm,q⟩:=aT;unfold yIf at q;split at q
 ·rename_i e1;exact⟨Av,ρ,true,hA,hE,e1,λH1 s1=>show tRe X.K Hx ga σ H1 Q from⟨Av,ρ,hA.same s1,hE.same s1,sm.trans s1,q⟩⟩
 ·rename_i e1;exact⟨Av,ρ,false,hA,hE,e1,λH1 s1=>show tRe X.K Hx gb σ H1 Q from⟨Av,ρ,hA.same s1,hE.same s1,sm.trans s1,q⟩⟩
 ·cases q
structure QRA (X:Cx) (es:List Expr) (g:ay->Bool):Prop where
 o:PA X es (tRa X.K X.aq g)
theorem qre_no:QRE X e yNo:=⟨λ_ _ _ _ _ _ ⟨_,_,_,_,_,q⟩=>by cases q⟩
variable {g:ay->Bool} in
theorem qra_hd(h:QRE X e g)(hs:starEach (e::es) X.env=(false,eval e X.env)::starEach es X.env:=by rfl):QRA X (e::es) g:=⟨ra_hd h.o hs⟩
variable {g:ay->Bool} in
theorem qra_tl(h:QF X e fa)(h2:QRA X es g)(hs:starEach (e::es) X.env=(false,eval e X.env)::starEach es X.env:=by rfl):QRA X (e::es) (yAnd fa g):=⟨ra_tl h.o h2.o hs⟩
variable {g:ay->Bool} in
theorem qre_tup{k}(h:QRA X es g):QRE X (.Tuple es k pos) g:=⟨re_tup h.o⟩
theorem qre_ifExp(hc:gR X c ft)(ha:QRE X a ga)(hb:QRE X b gb):QRE X (.IfExp c a b pos) (yIf ft ga gb):=⟨re_ifExp hc.o ha.o hb.o⟩
theorem qr_ret(h:QRE X e ge):QR X (.Return (some e) pos) (xE ge):=⟨rs_ret h.o⟩
variable {y:Str} {pos':Pos}
theorem qr_set(i:Nat)(hN:X.N.Nodup)(h:QRE X e ge)(hi:X.N[i]?=some y:=by rfl)(hx:Loc X.env.scope y:=by first|exact .inl rfl|exact .inr rfl)(hs:swapsWith e (some (.Name y pos')) pos.line X.env=pure false:=by rfl)(hf:X.fn y=true\/X.env.scope.names.lookup y=some .local:=by first|exact .inl rfl|exact .inr rfl):
  QR X (.Assign [.Name y pos'] e pos) (xE ge):=⟨rs_set hN h.o hi hx hs hf⟩
variable {E:XK}
theorem qre_comp{elt:Expr}{ifs:List Expr}{scope:Scope}{cl:List (Str×Addr)}{N':List Str}{cap:List (Option Nat)}(hx:Xc X E C)(B:pU X scope cl N' cap)(hi:QF X iter fi)(hg:∀C aC aq ex,QG (blkX X E scope none cl N' C aC aq ex) tg (iN X.K gt))(ht:∀C aC aq ex,Aa (blkX X E scope none cl N' C aC aq ex) ifs (jT X.K ft))(he:∀C aC aq ex,QF (blkX X E scope none cl N' C aC aq ex) elt fe)(hr:∀D aC aq ex,Passes (CXF X.prog X.w) (blkX X E scope none cl N' D aC aq ex) E->(∀H',aO X.aq H'->E (.ref C) none H')->QE (blkX X E scope none cl N' D aC aq ex) elt (tRe X.K X.aq ge))(hT:mh gt cap)(hs:∀x,foldedSetIterable iter X.env x=pure x:=by intro _;rfl):QRE X (.ListComp elt [⟨tg,iter,ifs,0⟩] scope pos) (xComp cap gt ft fe ge fi):=
 ⟨re_comp hx.xe hx.calm B hi.o (λC aC aq ex=>(hg C aC aq ex).o) (λC aC aq ex=>(ht C aC aq ex).o) (λC aC aq ex=>(he C aC aq ex).o) (λD aC aq ex hp=>(hr D aC aq ex hp hx.acc).o) hT hs⟩
variable {fs:ay->Option (List Dat)} in
theorem qre_callP{k:Nat}(D:DnX X.prog X.w X.K X.mg X.base k x ps n R)(hr:cj k X.A)(hp:Passes (CXF X.prog X.w) X E)(hA:∀H',aO Hx H'->E (.ref C) none H')(ha:g5 X (e::es) fs)(hg:Gl X x:=by rfl)(fO:(x==("__debug__" : Str))=false:=by decide)(he:starEach (e::es) X.env=(false,eval e X.env)::starEach es X.env:=by rfl)(bW:(backTo pos (starEach es X.env)).any (·.1)=false:=by rfl):QE X (.Call (.Name x p) (e::es) [] pos) (tRe X.K Hx (xFn n R C fs)):=⟨re_callP hp hA D hr ha.o hg fO he bW⟩
open PySem PySem.Spec PyProof.Rows L2
open PySem.W (Dat kqdOk)
abbrev TR (X:Cx) (st:Stmt) (g:aD->Bool):Prop:=Sz X st (tRx X.K X.aq g)
abbrev TRs (X:Cx) (st:List Stmt) (g:aD->Bool):Prop:=Pr X st (tRx X.K X.aq g)
abbrev TRE (X:Cx) (e:Expr) (g:ay->Bool):Prop:=SA X e (tRe X.K X.aq g)
abbrev TRA (X:Cx) (es:List Expr) (g:ay->Bool):Prop:=SD X es (tRa X.K X.aq g)
structure DnXT (P:Program) (w:World) (K:Fg) (mg:Str->Option Value) (base:Heap) (k:Nat) (x:Str) (ps:List Str) (n:Nat) (R:List Dat->Addr->Bool):Prop where
 ex:∃(f:Addr) (fd:FuncData),rR P w K mg base (CXF P w) k f fd ps (spX K n R)/\mg x=some (.ref f)/\keepIn K (.ref f)=true/\Binds K fd ps []
variable {st:Stmt}
variable {g:aD->Bool} in
theorem tr_of(h:QR X st g):TR X st g:=⟨Dv h.o⟩
variable {rest:List Stmt}
variable {g:aD->Bool} in
theorem trs_of(h:QRs X rest g):TRs X rest g:=⟨AS h.o⟩
variable {g:aD->Bool} in
theorem tr_hd(h:TR X st g):TRs X (st::rest) g:=⟨λpins s σ H D I ht q=>by
 refine wpAny_execs_cons (bP (h.o pins s σ H {nx:=λ_ _=>False,rt:=λ_ _=>False} I ht q) λfl s1 z=>?_);cases fl with
 |next=>obtain⟨_,_,_,z⟩:=z;exact z.elim
 |ret u=>obtain⟨_,_,_,_,_,z⟩:=z;exact z.elim
 |brk=>obtain⟨_,_,_,z⟩:=z;exact z.elim
 |cont=>obtain⟨_,_,_,z⟩:=z;exact z.elim⟩
variable {g:aD->Bool} in
theorem tr_one(h:TR X st g):TRs X [st] g:=tr_hd h
variable {f:aD->Option Fl}
variable {g:aD->Bool} in
theorem tr_tl(h1:xk X st f)(h2:TRs X rest g):TRs X (st::rest) (xSeq f g):=⟨wo (wt h1.o h2.o) λD σ H aT=>by
 obtain⟨Av,pn,aQ,Γ,G,q⟩:=aT;unfold xSeq at q;split at q
 ·rename_i au e1;exact⟨X.aq,Av,pn,aQ,Γ,_,G,e1,λbD H' G'=>⟨Av,pn,aQ,au,G',q⟩⟩
 ·cases q⟩
variable {g1 g2:aD->Bool}
theorem tr_cons(h:TR X st g1)(h1:xk X st f)(h2:TRs X rest g2):TRs X (st::rest) (xOr g1 (xSeq f g2)):=⟨λpins s σ H D I ht aT=>by
 obtain⟨Av,pn,aQ,Γ,G,q⟩:=aT;rcases or_eq_true_iff.mp q with q|q
 ·exact(tr_hd (rest:=rest) h).o pins s σ H D I ht ⟨Av,pn,aQ,Γ,G,q⟩
 ·exact(tr_tl h1 h2).o pins s σ H D I ht ⟨Av,pn,aQ,Γ,G,q⟩⟩
variable {as:List Stmt}
variable {bs:List Stmt} in
theorem tr_if(hc:gR X c ft)(ha:TRs X as g1)(hb:TRs X bs g2):TR X (.If c as bs pos) (xIf ft g1 g2):=⟨l7 (Dx hc.o ha.o hb.o) λD σ H aT=>by
 obtain⟨Av,pn,aQ,Γ,⟨ad,G⟩,q⟩:=aT;unfold xIf at q;split at q
 ·rename_i e1;exact⟨Av,bo Γ,true,G.fY.same G.same,G.gE,e1,λH' s=>show tRx X.K X.aq g1 D σ H' from⟨Av,pn,aQ,Γ,⟨ad,G.grow s⟩,q⟩⟩
 ·rename_i e1;exact⟨Av,bo Γ,false,G.fY.same G.same,G.gE,e1,λH' s=>show tRx X.K X.aq g2 D σ H' from⟨Av,pn,aQ,Γ,⟨ad,G.grow s⟩,q⟩⟩
 ·cases q⟩
theorem tr_ret(h:TRE X e ge):TR X (.Return (some e) pos) (xE ge):=⟨l7 (AV h.o) λD σ H ⟨Av,pn,aQ,Γ,⟨ad,G⟩,q⟩=>⟨Av,bo Γ,G.fY.same G.same,G.gE,G.same,q⟩⟩
theorem tr_set(i:Nat)(hN:X.N.Nodup)(h:TRE X e ge)(hi:X.N[i]?=some y:=by rfl)(hx:Loc X.env.scope y:=by first|exact .inl rfl|exact .inr rfl)(hs:swapsWith e (some (.Name y pos')) pos.line X.env=pure false:=by rfl)(hf:X.fn y=true\/X.env.scope.names.lookup y=some .local:=by first|exact .inl rfl|exact .inr rfl):
  TR X (.Assign [.Name y pos'] e pos) (xE ge):=⟨l7 (AU hN hi hx h.o hs hf) λD σ H ⟨Av,pn,aQ,Γ,⟨ad,G⟩,q⟩=>⟨Av,bo Γ,G.fY.same G.same,G.gE,G.same,q⟩⟩
theorem tre_or(h1:TRE X e ge)(h2:TRE X e gb):TRE X e (yOr ge gb):=⟨λpins s σ H Q I ht aT=>by
 obtain⟨Av,ρ,hA,hE,sm,q⟩:=aT;rcases or_eq_true_iff.mp q with q|q
 ·exact h1.o pins s σ H Q I ht ⟨Av,ρ,hA,hE,sm,q⟩
 ·exact h2.o pins s σ H Q I ht ⟨Av,ρ,hA,hE,sm,q⟩⟩
variable {fs:ay->Option (List Dat)} in
theorem tre_callT{k:Nat}(D:DnXT X.prog X.w X.K X.mg X.base k x ps n R)(hr:cj k X.A)(hx:Xc X E C)(ha:g5 X (e::es) fs)(hg:Gl X x:=by rfl)(fO:(x==("__debug__" : Str))=false:=by decide)(he:starEach (e::es) X.env=(false,eval e X.env)::starEach es X.env:=by rfl)(bW:(backTo pos (starEach es X.env)).any (·.1)=false:=by rfl):TRE X (.Call (.Name x p) (e::es) [] pos) (xFn n R C fs):=by
 obtain⟨f,fd,h1,h2,h3,h4⟩:=D.ex;refine⟨j7 (wz h1 hr hg h2 h3 h4 .nil (passF hx.xe) (yR ha.o) fO he bW) λσ H Q ⟨Av,ρ,wQ,hE,sm,hg⟩=>?_⟩;unfold xFn at hg;split at hg
 ·rename_i ds e1;obtain⟨g1,g2⟩:=and_eq_true_iff.mp hg;exact⟨Av,ρ,ds,wQ,hE,e1,λxs H1 s1 r1=>⟨Av,ds,C,wQ.same s1,by rw[append_nil];exact r1,of_decide_eq_true g1,g2,λH' s'=>hx.acc H' (sm.trans (s1.trans s'))⟩⟩
 ·cases hg
theorem tra_hd(h:TRE X e ge)(hs:starEach (e::es) X.env=(false,eval e X.env)::starEach es X.env:=by rfl):TRA X (e::es) ge:=⟨λps pins s σ H Q I ht q=>
 yS h.o (yR (pa_no (X:=X) (es:=es))) hs ps pins s σ H Q I ht q⟩
variable {F:List Dat->Option Dat}
theorem tre_arg{k:Nat}(D:Dn X.prog X.w X.K X.mg X.base k x ps n F)(hr:cj k X.A)(ha:TRA X (e::es) ge)(hg:Gl X x:=by rfl)(fO:(x==("__debug__" : Str))=false:=by decide)(he:starEach (e::es) X.env=(false,eval e X.env)::starEach es X.env:=by rfl)(bW:(backTo pos (starEach es X.env)).any (·.1)=false:=by rfl):TRE X (.Call (.Name x p) (e::es) [] pos) ge:=by
 obtain⟨f,fd,h1,h2,h3,h4⟩:=D.ex;exact⟨j7 (yQ h1 hr hg h2 h3 h4 .nil rH ha.o fO he bW) λ_ _ _ q=>q⟩
theorem tre_opl{op:Operator}(h:TRE X a ge):TRE X (.BinOp a op b pos) ge:=
 ⟨j7 (yP (r:=λ_ _ _ _=>False) (λ_ _ _ _ _ _ _ _ _ _ _ _ z=>z.elim) h.o (MY (pe_no (X:=X) (e:=b)))) λ_ _ _ q=>q⟩
theorem tre_opr{op:Operator}(ha:TF X a fa)(h:TRE X b ge):TRE X (.BinOp a op b pos) (yAnd fa ge):=
 ⟨j7 (yP (r:=λ_ _ _ _=>False) (λ_ _ _ _ _ _ _ _ _ _ _ _ z=>z.elim) ha.o h.o) λσ H Q aT=>by
  obtain⟨Av,ρ,hA,hE,sm,q⟩:=aT;obtain⟨q1,q2⟩:=and_eq_true_iff.mp q;obtain⟨d,e1⟩:=isSome_iff_exists.mp q1;exact⟨Av,ρ,d,hA,hE,e1,λv H1 s1 _=>⟨Av,ρ,hA.same s1,hE.same s1,sm.trans s1,q2⟩⟩⟩
variable {P:Program} {mg:Str->Option Value} {base:Heap}
theorem qdnXT{w:World}{K:Fg}{k:Nat}(N:List Str)(U:FnAt K mg x st ps){g:Addr->aD->Bool}(hbody:N.Nodup->∀(fa:Addr) (bJ:Value) (A:Around) (outer:List Env) (s:Shared) (H:Hp) (E:XK) (C:Addr),cj k (A.deeper (envOfC x (aP st) s.heap.objs.size fa bJ))->Xc (g9 (CXF P w) P w K mg base N x (aP st) fa bJ A outer s H E) E C->
   TRs (g9 (CXF P w) P w K mg base N x (aP st) fa bJ A outer s H E) (d4 st) (g C))(S:eh N ps (aP st):=by exact⟨rfl,rfl,rfl,by decide +kernel,rfl,by decide +kernel,by decide +kernel⟩)(hn:ps.length=n:=by rfl):DnXT P w K mg base (k+1) x ps n (λds C=>g C (bY N ds)):=by
 obtain⟨f,fd,U,hm,hB⟩:=U.ex;have bW:ps.length<=N.length:=by have:=congrArg List.length S.pre;rw[length_take]at this;omega
 have nd:=S.nd;have kp:=U.kp;obtain⟨oc,od,kV,doc,pm,an,bJ,ct,nR,rfl,lk,gy⟩:=U.ex;refine⟨f,_,EH lk gy S (λvs H Q E h=>?_) (λA outer s H vs Q E hr h=>?_),hm,kp,hB⟩
 ·obtain⟨Av,ds,C,_,r,hl,_⟩:=h;rw[r.length,hl,hn]
 ·obtain⟨Av,ds,C,hA,r,hl,hd,q⟩:=h;exact⟨_,(hbody nd f bJ A outer s H E C hr ⟨⟨rfl,rfl,rfl,λ_ _ z=>z⟩,q,PassesOwn.leaving,rfl⟩).o,Av,none,[],bY N ds,jM hA r (by omega),hd⟩
variable {o:Expr} {f:ay->Option Dat} {j:Nat} {p2 p3:Pos}
theorem qr_split{g:aD->Bool}(i:Nat){p1:Pos}(hN:X.N.Nodup)(ho:QF X o f)(C9:TRs X rest g)(dS:attributeBase o "split" X.env (eval o X.env)=eval o X.env:=by rfl)(dR:(p2.endLine==p3.line)=true:=by rfl)(hi:X.N[i]?=some x:=by rfl)(hx:Loc X.env.scope x:=by first|exact .inl rfl|exact .inr rfl)(hs:swapsWith (.Call (.Attribute o "split" p2) [.Constant (.str y) j p1] [] p3) (some (.Name x pos')) pos.line X.env=pure false:=by rfl)(hf:X.fn x=true\/X.env.scope.names.lookup x=some .local:=by first|exact .inl rfl|exact .inr rfl):
  QRs X (.Assign [.Name x pos'] (.Call (.Attribute o "split" p2) [.Constant (.str y) j p1] [] p3) pos::rest) (xSeq (cW i (fL (eD f (ax (fC (.str y)) aK)))) g):=⟨by
 have Ov:∀(pins:List (Addr×Obj)) (s:Shared) (σ:L2.St) (H:Hp) (Q:VK),L2.Inv X pins σ H s->tF X.K (fL (eD f (ax (fC (.str y)) aK))) σ H Q->wpAny (model X.prog X.w) X.A (eval (.Call (.Attribute o "split" p2) [.Constant (.str y) j p1] [] p3) X.env) (λv s'=>1<=s'.toks/\EP X pins σ Q v s') X.xe s:=by
  intro pins s σ H Q I h;have h:=nL σ H Q (rf σ H Q h);refine wpAny_Call_method_late dS rfl dR rfl (bP (ho.o pins s σ H _ I h) λv s1 ⟨x,H1,I1,r1,ty,q1⟩=>?_);obtain⟨h1,h2⟩:=pX I1 r1 ty;refine⟨"str","str.split",plainAttrs_str,slot_str_split,type_str_split,h1,h2,?_⟩;refine Calls.callWith_builtin rfl (Calls.evalArgs_plain ?_);refine Calls.spliced_cons (Calls.Constant_str (k:=j) (pos:=p1) (Calls.spliced_nil ?_));obtain⟨Av,ρ,ds,hA,hE,zv,q2⟩:=q1;cases zv;have q3:=q2 [.str y] H1 (aO.refl H1) (.cons (.str y) .nil);refine wpAny_mono (wpAny_toks_of (n:=1) (show 1<=s1.toks+1 by omega) (pC pins {s1 with toks:=s1.toks+1} σ H1 x [.str y] v [.str y s1.toks] Q (I1.tok _) r1 (.cons ⟨_,rfl⟩ .nil) q3)) (λ_ _ z=>z) λ_ _ z=>z.2
 intro pins s σ H D I h;obtain⟨Av,pn,aQ,Γ,G,q⟩:=h;unfold xSeq at q;split at q
 ·rename_i au e1;have key:oo X.K (cW i (fL (eD f (ax (fC (.str y)) aK)))) {D with nx:=λbD H'=>tRx X.K X.aq g D bD H'} σ H:=⟨X.aq,Av,pn,aQ,Γ,_,G,e1,λbD H' G'=>⟨Av,pn,aQ,au,G',q⟩⟩;have Hh:=tO _ _ _ key;refine wpAny_execs_cons (wpAny_Assign_Name (bP (Ov pins s σ H _ I Hh) λv s1 ⟨lN,y1,H1,I1,r1,q1⟩=>?_) hs);refine mx lN (j3 I1 hN hi hx r1 (λs2 I2 NN=>?_) hf);exact C9.o pins s2 _ H1 D I2 NN q1
 ·cases q⟩
open PySem PySem.Spec PyProof.Rows L2
open PySem.W (Dat)
variable {fb fc:ay->Option Dat}
theorem qpf_leLe(ha:QF X a fa)(hb:QF X b fb)(hc:QF X c fc)(hm:lastMarks [.LtE,.LtE] [b,c]=false:=by with_unfolding_all rfl):QF X (.Compare a [.LtE,.LtE] [b,c] pos) (ia rZ rZ fa fb fc):=⟨bA (GR uf uf ha.o hb.o hc.o hm) (yd lu lu)⟩
noncomputable def iSg (f:ay->Option Dat):ay->Option (List Dat):=λρ=>(f ρ).bind tU
theorem qpif_str(h:QF X iter f):FV X tg iter (iSg f):=⟨vy (DA h.o) λσ H R aT=>by
 obtain⟨Av,ρ,ds,hA,hE,hf,q⟩:=aT;obtain⟨d,e1,hf⟩:=bind_some hf;refine⟨Av,ρ,d,hA,hE,e1,λx H1 s1 r=>?_⟩;cases d with
 |str a=>
  cases hf;have e:=r.cy;subst e;exact⟨a,rfl,q _ [_] [_] H1 s1 (.cons r .nil) yT.s⟩
 |_=>cases hf⟩
open PySem PySem.Spec PyProof.Rows L2
open PySem.W (Dat)
noncomputable def fndI (a y:Str):Int:=match Builtin.Str.occurrences a y 0 a.length 1 with
 |i::_=>(i:Int)
 |[]=>-1
noncomputable def rFind:V->List V->Hp->VK->Prop:=λx xs H Q=>∃a y,x=.str a/\xs=[.str y]/\Q (.int (fndI a y)) H
theorem mt_find:v9 X "str.find" rFind:=by
 intro pins s σ H x xs v us Q I rx rv h;obtain⟨a,y,rfl,rfl,q⟩:=h;obtain⟨t,rfl⟩:=rx;obtain⟨w',rfl,ko⟩:=vals1 rv;obtain⟨u,rfl⟩:=ko;exact call_meets F.slot_str_find (typeIs_str s a t) F.entry_str_find (F.args_str_find_2 _ _) (gives_str_find a y t u).meets ⟨.int _,H,I.tok _,⟨_,rfl⟩,q⟩
noncomputable def findD:Dat->List Dat->Option Dat:=λx as=>match x,as with
 | .str a,[.str y]=>some (.int (fndI a y))
 |_,_=>none
variable {fs:ay->Option (List Dat)} in
theorem qpf_find(ho:QF X o f)(ha:g5 X [e] fs)(dS:attributeBase o "find" X.env (eval o X.env)=eval o X.env:=by rfl)(gV:((backTo p3 (starEach [e] X.env)).all (λx=>!x.1)&&(backToKw p3 (keywordEach [] X.env)).all (λx=>x.1.isSome)&&decide (([e]:List Expr).length+([]:List Keyword).length+(if([]:List Keyword).isEmpty then 0 else 1)<30))=true:=by rfl)(dR:(p2.endLine==p3.line)=true:=by rfl)(kc:starEach [e] X.env=(false,eval e X.env)::starEach [] X.env:=by rfl)(ez:(backTo p3 (starEach [] X.env)).any (·.1)=false:=by rfl):
  QF X (.Call (.Attribute o "find" p2) [e] [] p3) (fP findD f fs):=
 ⟨bA (nQ plainAttrs_str PySem.F.slot_str_find PySem.F.type_str_find mt_find ho.o ha.o dS gV dR kc ez) λσ H Q aT=>by
  obtain⟨Av,ρ,d,hA,hE,hf,q⟩:=aT;obtain⟨dx,e1,hf⟩:=bind_some hf;obtain⟨ds,e2,hf⟩:=bind_some hf;unfold findD at hf;split at hf
  ·cases hf;refine⟨Av,ρ,_,hA,hE,e1,λx H1 s1 r1=>⟨by rw[r1.cy];exact rfl,Av,ρ,_,hA.same s1,hE.same s1,e2,λxs H2 s2 r2=>?_⟩⟩;obtain⟨v,rfl,rv⟩:=r2.cJ;exact⟨_,_,r1.cy,by rw[rv.cy],q _ H2 (s1.trans s2) (.int _)⟩
  ·cases hf⟩
noncomputable def rIndexT:V->List V->Hp->VK->Prop:=λx xs H Q=>∃a y i r,x=.str a/\xs=[.str y]/\Builtin.Str.occurrences a y 0 a.length 1=i::r/\Q (.int (i:Int)) H
theorem mt_indexT:v9 X "str.index" rIndexT:=by
 intro pins s σ H x xs v us Q I rx rv h;obtain⟨a,y,i,r,rfl,rfl,ho,q⟩:=h;obtain⟨t,rfl⟩:=rx;obtain⟨w',rfl,ko⟩:=vals1 rv;obtain⟨u,rfl⟩:=ko;exact call_meets F.slot_str_index (typeIs_str s a t) F.entry_str_index (F.args_str_index_2 _ _) (gives_str_index a y t u i r ho).meets ⟨.int _,H,I.tok _,⟨_,rfl⟩,q⟩
noncomputable def indexTD:Dat->List Dat->Option Dat:=λx as=>match x,as with
 | .str a,[.str y]=>(match Builtin.Str.occurrences a y 0 a.length 1 with
  |i::_=>some (.int (i:Int))
  |[]=>none)
 |_,_=>none
variable {fs:ay->Option (List Dat)} in
theorem qpf_indexT(ho:QF X o f)(ha:g5 X [e] fs)(dS:attributeBase o "index" X.env (eval o X.env)=eval o X.env:=by rfl)(gV:((backTo p3 (starEach [e] X.env)).all (λx=>!x.1)&&(backToKw p3 (keywordEach [] X.env)).all (λx=>x.1.isSome)&&decide (([e]:List Expr).length+([]:List Keyword).length+(if([]:List Keyword).isEmpty then 0 else 1)<30))=true:=by rfl)(dR:(p2.endLine==p3.line)=true:=by rfl)(kc:starEach [e] X.env=(false,eval e X.env)::starEach [] X.env:=by rfl)(ez:(backTo p3 (starEach [] X.env)).any (·.1)=false:=by rfl):
  QF X (.Call (.Attribute o "index" p2) [e] [] p3) (fP indexTD f fs):=
 ⟨bA (nQ plainAttrs_str PySem.F.slot_str_index PySem.F.type_str_index mt_indexT ho.o ha.o dS gV dR kc ez) λσ H Q aT=>by
  obtain⟨Av,ρ,d,hA,hE,hf,q⟩:=aT;obtain⟨dx,e1,hf⟩:=bind_some hf;obtain⟨ds,e2,hf⟩:=bind_some hf;unfold indexTD at hf;split at hf
  ·split at hf
   ·rename_i J1;cases hf;refine⟨Av,ρ,_,hA,hE,e1,λx H1 s1 r1=>⟨by rw[r1.cy];exact rfl,Av,ρ,_,hA.same s1,hE.same s1,e2,λxs H2 s2 r2=>?_⟩⟩;obtain⟨v,rfl,rv⟩:=r2.cJ;exact⟨_,_,_,_,r1.cy,by rw[rv.cy],J1,q _ H2 (s1.trans s2) (.int _)⟩
   ·cases hf
  ·cases hf⟩
end
end L3
namespace Tx
noncomputable section
open PySem PySem.Builtin.Str PySem.StrLaws
theorem yY(s sub:Str)(hi:Nat):∀(l:List Nat) (st:Array Nat×Nat),1<=st.fst.size->(forIn l st (occBody s sub hi 1)).run.fst=st.fst
 |[],st,_=>rfl
 |a::l,st,h=>by
  rw[List.forIn_cons];unfold occBody;rw[if_neg (λz=>by have:=z.1.1.1;omega)];exact yY s sub hi l _ h
theorem yX(s sub:Str)(hi:Nat):∀(l:List Nat) (free:Nat),(∀i∈l,free<=i)->(forIn l ((#[]:Array Nat),free) (occBody s sub hi 1)).run.fst.toList=(l.find? λi=>decide (i+sub.length<=hi)&&subAt s sub i).toList
 |[],free,_=>rfl
 |a::l,free,hf=>by
  rw[List.forIn_cons,find?_cons];unfold occBody;have ha:free<=a:=hf a mem_cons_self;cases hc:(decide (a+sub.length<=hi)&&subAt s sub a)with
  |true=>
   obtain⟨h1,h2⟩:=and_eq_true_iff.mp hc;rw[if_pos ⟨⟨⟨by show(0:Nat)<1;decide,ha⟩,of_decide_eq_true h1⟩,h2⟩];show(forIn l ((#[]:Array Nat).push a,a+sub.length) (occBody s sub hi 1)).run.fst.toList=_;rw[yY s sub hi l _ (by simp)];rfl
  |false=>
   rw[if_neg (λz=>by
    rw[decide_eq_true z.1.2,z.2]at hc;cases hc)]
   exact yX s sub hi l free λi O1=>hf i (mem_cons_of_mem _ O1)
theorem yZ(x y:Str):occurrences x y 0 x.length 1=((range' 0 (x.length+1)).find? λi=>decide (i+y.length<=x.length)&&subAt x y i).toList:=by
 rw[occ_eq];exact yX x y x.length _ 0 λi _=>zero_le i
variable {x:Str} {c:Nat}
theorem occ_first{a r:List Nat}(h:tl x=a++c::r)(ha:c∉a):occurrences x (ic c) 0 x.length 1=[a.length]:=by
 have hl:x.length=a.length+(r.length+1):=by
  have:(tl x).length=x.length:=by simp[Str.length]
  rw[<- this,h,length_append,length_cons]
 have yes:(decide (a.length+(ic c).length<=x.length)&&subAt x (ic c) a.length)=true:=by
  have:=(lj x c a.length).mpr ⟨r,by rw[h,drop_left]⟩;rw[decide_eq_true this.1,this.2];rfl
 have no:∀i,i<a.length->(decide (i+(ic c).length<=x.length)&&subAt x (ic c) i)=false:=λi hi=>by
  cases hc:(decide (i+(ic c).length<=x.length)&&subAt x (ic c) i)with
  |false=>rfl
  |true=>
   obtain⟨h1,h2⟩:=and_eq_true_iff.mp hc;obtain⟨q,hq⟩:=(lj x c i).mp ⟨of_decide_eq_true h1,h2⟩;rw[h,List.drop_append_of_le_length (le_of_lt hi)]at hq;cases e:a.drop i with
   |nil=>rw[List.drop_eq_nil_iff]at e;omega
   |cons d t=>
    rw[e]at hq;injection hq with hq _;exact absurd (List.mem_of_mem_drop (i:=i) (by rw[e,hq];exact mem_cons_self)) ha
 rw[yZ];have e:range' 0 (x.length+1)=range' 0 a.length++a.length::range' (a.length+1) (r.length+1):=by
  rw[show x.length+1=a.length+(r.length+1+1) by omega,<- List.range'_append_1,Nat.zero_add,List.range'_succ (n:=r.length+1)]
 rw[e,List.find?_append,find?_cons,yes];rw[List.find?_eq_none.mpr (λi hi=>by
  have:i<a.length:=by have:=List.mem_range'_1.mp hi;omega
  rw[no i this];exact Bool.false_ne_true)]
 rfl
theorem DS(h:c∉tl x):occurrences x (ic c) 0 x.length 1=[]:=by
 rw[yZ,List.find?_eq_none.mpr (λi hi z=>by
  obtain⟨h1,h2⟩:=and_eq_true_iff.mp z;obtain⟨q,hq⟩:=(lj x c i).mp ⟨of_decide_eq_true h1,h2⟩;exact h (List.mem_of_mem_drop (i:=i) (by rw[hq];exact mem_cons_self)))]
 rfl
end
end Tx
namespace L3
noncomputable section
open PySem PySem.Spec PyProof.Rows L2
open PySem.W (Dat)
noncomputable def rMulS:R2:=λx y H Q=>∃z k,x=.str z/\y=.int k/\MulOk z k/\Q (.str (Txt.mul z k)) H
variable {X:Cx}
theorem op_mulS:dF X (binaryOp .Mult) rMulS:=by
 intro pins s σ H x y v u Q I rx ry h;obtain⟨z,k,rfl,rfl,ok,q⟩:=h;obtain⟨t,rfl⟩:=rx;obtain⟨t',rfl⟩:=ry;exact SB.mul ok λt2 k2=>⟨.str _,H,I.tok _,⟨_,rfl⟩,q⟩
noncomputable def mulSD:Dat->Dat->Option Dat
 | .str z,.int k=>@ite _ (MulOk z k) (Classical.propDecidable _) (some (.str (Txt.mul z k))) none
 |_,_=>none
theorem opD_mulS{K:Fg}:kJ K rMulS mulSD:=by
 intro H Av x y dx dy d Q hA rx ry h q;unfold mulSD at h;split at h
 ·split at h
  ·rename_i hz;cases h;exact⟨_,_,rx.cy,ry.fH,hz,q _ H (aO.refl H) (.str _)⟩
  ·cases h
 ·cases h
variable {fb fa:ay->Option Dat} {a b:Expr} {pos:Pos}
theorem qpf_mulS(pa:QF X a fa)(pb:QF X b fb):QF X (.BinOp a .Mult b pos) (f2 mulSD fa fb):=⟨kA op_mulS opD_mulS pa.o pb.o⟩
set_option maxHeartbeats 4000000
open PySem PySem.Spec PyProof.Rows L2
open PySem.W (Dat kqdOk)
theorem Bw(a b:Int):eqB (.int a) (.int b)=some (decide (a=b)):=by
 have h:eqB (.int a) (.int b)=if kqdOk 9 (.int a)=true/\kqdOk 9 (.int b)=true then some (oa (.int a) (.int b))else none:=rfl;rw[h,if_pos ⟨rfl,rfl⟩];congr 1
 by_cases e:a=b
 ·rw[zO (by rw[e]),decide_eq_true e]
 ·rw[zQ (λz=>e (by injection z)),decide_eq_false e]
theorem bV(a b:Int):d8 (.int a) (.int b)=some (.bool (decide (a=b))):=by unfold d8;rw[Bw];rfl
theorem KR(a b:Int):gi (.int a) (.int b)=some (.bool (!decide (a=b))):=by unfold gi;rw[Bw];rfl
theorem mV(a b:Int):vm (.int a) (.int b)=some (.int (a-b)):=jm trivial
theorem i6(a b:Int):B7 (.int a) (.int b)=some (.bool (decide (a<b))):=jm trivial
theorem dE(a b:Int):rZ (.int a) (.int b)=some (.bool (decide (a<=b))):=jm trivial
theorem cK(a b:Int):wR (.int a) (.int b)=some (.bool (decide (b<a))):=jm trivial
theorem Bl(a b:Int):Sm (.int a) (.int b)=some (.bool (decide (b<=a))):=jm trivial
variable {a b:Int}
theorem bg(h:b≠0):iE (.int a) (.int b)=some (.int (a.fmod b)):=jm h
theorem cF(h:b≠0)(h2:b.natAbs.log2<9000):mD (.int a) (.int b)=some (.int (a.fdiv b)):=jm ⟨h,h2⟩
theorem zd(h:IntMulOk a b):pB (.int a) (.int b)=some (.int (a*b)):=jm h
theorem gz(a b:Int):mf (.int a) (.int b)=some (.int (a+b)):=rfl
theorem A3(c:Int):Cw [.int c]=some (.int (c.natAbs:Int)):=by
 show some (Dat.int (if c<0 then -c else c))=_;congr 2
 split<;>omega
variable {au Γ:aD} {g1 g2:aD->Option Fl}
theorem aG(h:g1 Γ=some (.nx au)):bG g1 g2 Γ=g2 au:=by unfold bG;rw[h];rfl
variable {d:Dat}
theorem Kd(h:g1 Γ=some (.rt d)):bG g1 g2 Γ=some (.rt d):=by unfold bG;rw[h];rfl
variable {i:Nat} {f:ay->Option Dat}
theorem cD(h:f (dD Γ)=some d):cW i f Γ=some (.nx (Γ.set i (some (.ag d)))):=by unfold cW;rw[h]
variable {ft:ay->Option Bool}
theorem my(h:ft (bo Γ)=some true):eI ft g1 g2 Γ=g1 Γ:=by unfold eI;rw[h];rfl
theorem je(h:ft (bo Γ)=some false):eI ft g1 g2 Γ=g2 Γ:=by unfold eI;rw[h];rfl
theorem gj(h:f (bo Γ)=some d):iW f Γ=some (.rt d):=by unfold iW;rw[h];rfl
variable {gt:Dat->Option dH}
theorem Ke{as:dH}(h:f (dD Γ)=some d)(h2:gt d=some as):yr gt f Γ=some (.nx (setG Γ as)):=by unfold yr;rw[h];show(gt d).map _=_;rw[h2];rfl
variable {n:Nat}
theorem xX{gb:aD->Option Fl}(h:ft (bo Γ)=some false):iL ft gb (n+1) Γ=some (.nx Γ):=by show(ft (bo Γ)).bind _=_;rw[h];rfl
theorem xW{gb:aD->Option Fl}(h:ft (bo Γ)=some true)(h2:gb Γ=some (.nx au)):iL ft gb (n+1) Γ=iL ft gb n au:=by
 show(ft (bo Γ)).bind _=_;rw[h];show(gb Γ).bind _=_;rw[h2];rfl
variable {N:List Str} {ds:List Dat}
theorem bQ{g:aD->Option Fl}(h:g (bY N ds)=some (.rt d)):gq N g ds=some d:=by unfold gq;rw[h]
open PySem PySem.Spec PyProof.Rows L2
open PySem.W (Dat kqdOk)
theorem eV{gt:Dat->Option dH}{fe:ay->Option Dat}{ρ0:ay}{β:Type}(enc tj:β->Dat):∀(l:List β),(∀x∈l,∃as,gt (enc x)=some as/\fe (j5 ρ0 as)=some (tj x))->cL gt cQ fe ρ0 (l.map enc)=some (l.map tj)
 |[],_=>rfl
 |x::l,h=>by
  obtain⟨as,e1,e2⟩:=h x mem_cons_self;have ih:=eV enc tj l λy hy=>h y (mem_cons_of_mem _ hy);simp only[map_cons,cL,e1,Option.bind_some,cQ,if_true,e2,ih,map_some]
theorem gQ{gt:Dat->Option dH}{ft:ay->Option Bool}{fe:ay->Option Dat}{ρ0:ay}{β:Type}(enc:β->Dat)(tj:β->Dat)(p:β->Bool):∀(l:List β),(∀x∈l,∃as,gt (enc x)=some as/\ft (j5 ρ0 as)=some (p x)/\(p x=true->fe (j5 ρ0 as)=some (tj x)))->cL gt ft fe ρ0 (l.map enc)=some ((l.filter p).map tj)
 |[],_=>rfl
 |x::l,h=>by
  obtain⟨as,e1,e2,e3⟩:=h x mem_cons_self;have ih:=gQ enc tj p l λy hy=>h y (mem_cons_of_mem _ hy);rw[map_cons,cL,e1,Option.bind_some,e2,Option.bind_some,List.filter_cons];by_cases c:p x=true
  ·rw[if_pos c,if_pos c,e3 c,Option.bind_some,ih];rfl
  ·rw[if_neg c,if_neg c];exact ih
variable {fe:ay->Option Dat} {ρ:ay} {out:List Dat}
theorem lQ{cap:List (Option Nat)}{fi:ay->Option (List Dat)}(h:fi ρ=some ds)(hl:ds.length<sizeLine)(hc:cL gt ft fe (gf cap ρ) ds=some out):fL (jb cap gt ft fe fi) ρ=some (.list out):=by
 unfold fL jb;rw[h,Option.bind_some,if_pos hl,hc];rfl
variable {fi:ay->Option Dat}
theorem iG{cap:List (Option Nat)}(h:fi ρ=some d)(hi:j8 d=some ds)(hl:ds.length<sizeLine)(hc:cL gt ft fe (gf cap ρ) ds=some out):fL (d7 cap gt ft fe fi) ρ=some (.list out):=by
 unfold fL d7;rw[h,Option.bind_some,hi,Option.bind_some,if_pos hl,hc];rfl
theorem pF{rg:List Dat->Option (List Dat)}{fs:ay->Option (List Dat)}{as:List Dat}(h:fs ρ=some as)(h2:rg as=some ds):zk rg fs ρ=some ds:=by
 unfold zk;rw[h];exact h2
theorem bN{op:Dat->Dat->Option Dat}{a b:Dat}(ha:fa ρ=some a)(hb:fb ρ=some b)(h:op a b=some d):f2 op fa fb ρ=some d:=by
 unfold f2;rw[ha,hb];exact h
theorem uM(h:f ρ=some d):ax f aK ρ=some [d]:=by
 unfold ax;rw[h];rfl
noncomputable abbrev nat (p:Nat):Dat:=.int (p:Int)
theorem Ud(j:Int)(h1:0<=j)(h2:j<=2000):oX [.int j]=some (oW 0 j.toNat):=if_pos ⟨by omega,by omega⟩
theorem Uc(n:Nat)(h:n<=2000):oX [.int (n:Int)]=some (oW 0 n):=by
 have:=Ud (n:Int) (by omega) (by omega);rw[toNat_natCast]at this;exact this
theorem yu(h:n<=1000):oX [.int (n:Int)]=some ((range' 0 n).map nat):=by
 rw[Uc n (by omega)];unfold oW;rw[List.range_eq_range'];congr 1
 exact map_congr_left λi _=>by rw[Int.zero_add]
theorem Bq{gt:Dat->Option dH}{gb:aD->Option Fl}(I:Nat->aD->Prop):∀(n j:Nat) (Γ:aD),I j Γ->(∀i Γ,j<=i->i<j+n->I i Γ->∃as,gt (nat i)=some as/\∃au,gb (setG Γ as)=some (.nx au)/\I (i+1) au)->∃au,forL gt gb ((range' j n).map nat) Γ=some (.nx au)/\I (j+n) au
 |0,j,Γ,h,_=>⟨Γ,rfl,h⟩
 |n+1,j,Γ,h,st=>by
  obtain⟨as,e1,Γ1,e2,h1⟩:=st j Γ (le_refl _) (by omega) h;obtain⟨CM,e3,h2⟩:=Bq I n (j+1) Γ1 h1 λi Γ a b=>st i Γ (by omega) (by omega);refine⟨CM,?_,by rw[show j+(n+1)=j+1+n by omega];exact h2⟩;rw[List.range'_succ,map_cons];show(gt (nat j)).bind _=_;rw[e1];show(gb (setG Γ as)).bind _=_;rw[e2];exact e3
theorem Bp{gb:aD->Option Fl}{fs:ay->Option (List Dat)}(I:Nat->aD->Prop)(h:fs (bo Γ)=some [.int (n:Int)])(hn:n<=1000)(h0:I 0 Γ)(st:∀i Γ,i<n->I i Γ->∃as,gt (nat i)=some as/\∃au,gb (setG Γ as)=some (.nx au)/\I (i+1) au):∃au,xB oX gt gb fs Γ=some (.nx au)/\I n au:=by
 obtain⟨au,e,hi⟩:=Bq (gt:=gt) (gb:=gb) I n 0 Γ h0 λi Γ _ b=>st i Γ (by omega);rw[Nat.zero_add]at hi;refine⟨au,?_,hi⟩;unfold xB;rw[h,Option.bind_some,yu hn,Option.bind_some];exact e
variable {Pp:Dat->Prop}
theorem sQ{g1 g2:aD->Option Fl}(h:g1 Γ=some (.nx au))(k:∃d,Pp d/\g2 au=some (.rt d)):∃d,Pp d/\bG g1 g2 Γ=some (.rt d):=by
 obtain⟨d,h1,h2⟩:=k;exact⟨d,h1,by rw[aG h];exact h2⟩
theorem Ms{g1 g2:aD->Option Fl}(I:aD->Prop)(h:∃au,g1 Γ=some (.nx au)/\I au)(k:∀au,I au->∃d,Pp d/\g2 au=some (.rt d)):∃d,Pp d/\bG g1 g2 Γ=some (.rt d):=by
 obtain⟨au,h1,h2⟩:=h;exact sQ h1 (k au h2)
theorem Mv{g:aD->Option Fl}(h:∃d,Pp d/\g (bY N ds)=some (.rt d)):∃d,Pp d/\gq N g ds=some d:=by
 obtain⟨d,h1,h2⟩:=h;exact⟨d,h1,bQ h2⟩
variable {I:aD->Prop}
theorem uH{g1 g2:aD->Option Fl}{Γ1:aD}(h:g1 Γ=some (.nx Γ1))(h2:∃au,g2 Γ1=some (.nx au)/\I au):∃au,bG g1 g2 Γ=some (.nx au)/\I au:=by
 obtain⟨au,e,i⟩:=h2;exact⟨au,by rw[aG h];exact e,i⟩
theorem Ou{g1 g2:aD->Option Fl}(J:aD->Prop)(h:∃au,g1 Γ=some (.nx au)/\J au)(h2:∀Γ1,J Γ1->∃au,g2 Γ1=some (.nx au)/\I au):∃au,bG g1 g2 Γ=some (.nx au)/\I au:=by
 obtain⟨Γ1,e,i⟩:=h;exact uH e (h2 Γ1 i)
theorem sR(h:f (bo Γ)=some d)(hn:k9 9 d=true):xA i f Γ=some (.nx (Γ.set i (some (.ag d)))):=by
 unfold xA;rw[h,Option.bind_some,if_pos hn]
open PySem PySem.Spec PyProof.Rows L2
open PySem.W (Dat kqdOk)
theorem Mr{g1 g2:aD->Option Fl}{fl:Fl}(I:aD->Prop)(h:∃au,g1 Γ=some (.nx au)/\I au)(fin:∀au,I au->g2 au=some fl):bG g1 g2 Γ=some fl:=by
 obtain⟨au,e,i⟩:=h;rw[aG e];exact fin au i
end
end L3
namespace Tx
noncomputable section
structure Gw (w:Wd):Prop where
 ne:tl w.word≠[]
 np:43∉tl w.word
 nm:45∉tl w.word
theorem LY(t:PySem.Str)(ht:t≠⟨#[]⟩)(w:Wd):tl (eF t w)=tl t++(if w.neg=true then 45::tl w.word else 43::tl w.word):=by
 unfold eF;split
 ·rw[aR,aR,append_assoc];rfl
 ·first
   |(rw[if_neg ht,aR,aR,append_assoc];rfl)
   |(rw[aR,aR,append_assoc];rfl)
variable {w:Wd}
theorem tQ(t:PySem.Str)(h:Gw w):eF t w≠⟨#[]⟩:=by
 intro z;have z:=congrArg tl z;unfold eF at z;split at z
 ·rw[aR,aR]at z;have:=(append_eq_nil_iff.mp z).2;exact h.ne this
 ·split at z
  ·exact h.ne z
  ·rw[aR,aR]at z;exact h.ne (append_eq_nil_iff.mp z).2
theorem qY:∀(ws:List Wd) (t:PySem.Str),t≠⟨#[]⟩->(∀w∈ws,Gw w)->tl (ws.foldl eF t)=tl t++ws.flatMap λw=>if w.neg=true then 45::tl w.word else 43::tl w.word
 |[],t,_,_=>by simp
 |w::ws,t,ht,h=>by
  show tl (ws.foldl eF (eF t w))=_;rw[qY ws (eF t w) (tQ t (h w mem_cons_self)) λv hv=>h v (mem_cons_of_mem _ hv),LY t ht,flatMap_cons,append_assoc]
theorem Mw(h:Gw w):rm (if w.neg=true then 45::tl w.word else 43::tl w.word)=43::tl (term w):=by
 unfold term;split
 ·show[43,45]++rm (tl w.word)=43::tl (zM++w.word);rw[mI _ h.nm,aR];rfl
 ·show[43]++rm (tl w.word)=_;rw[mI _ h.nm];rfl
theorem AK:∀ws:List Wd,(∀w∈ws,Gw w)->rm (ws.flatMap λw=>if w.neg=true then 45::tl w.word else 43::tl w.word)=ws.flatMap λw=>43::tl (term w)
 |[],_=>rfl
 |w::ws,h=>by
  rw[flatMap_cons,yz,Mw (h w mem_cons_self),AK ws λv hv=>h v (mem_cons_of_mem _ hv),flatMap_cons]
theorem pY(h:Gw w):43∉tl (term w):=by
 unfold term;split
 ·rw[aR];intro z;rcases mem_append.mp z with z|z
  ·have:(43:Nat)∈[45]:=z;simp at this
  ·exact h.np z
 ·exact h.np
theorem qc:∀(t:List Nat) (ws:List Wd),43∉t->(∀w∈ws,Gw w)->bB 43 (t++ws.flatMap λw=>43::tl (term w))=t::ws.map λw=>tl (term w)
 |t,[],ht,_=>by
  rw[show([]:List Wd).flatMap (λw=>43::tl (term w))=[]from rfl,append_nil];exact fB 43 t ht
 |t,w::ws,ht,h=>by
  rw[flatMap_cons,cons_append,gF 43 t _ ht,qc (tl (term w)) ws (pY (h w mem_cons_self)) λv hv=>h v (mem_cons_of_mem _ hv)];rfl
theorem pI(w:Wd):eF ⟨#[]⟩ w=term w:=by
 unfold eF term;split
 ·exact d6 (by rw[aR,aR,aR];rfl)
 ·exact if_pos rfl
theorem wu(w:Wd)(ws:List Wd)(h:∀v∈w::ws,Gw v):bB 43 (rm (tl ((w::ws).foldl eF ⟨#[]⟩)))=(if w.neg=true then[[]]else[])++(w::ws).map λv=>tl (term v):=by
 have hw:=h w mem_cons_self;have hn:eF ⟨#[]⟩ w≠⟨#[]⟩:=tQ _ hw;have e1:tl ((w::ws).foldl eF ⟨#[]⟩)=tl (term w)++ws.flatMap λw=>if w.neg=true then 45::tl w.word else 43::tl w.word:=by
  show tl (ws.foldl eF (eF ⟨#[]⟩ w))=_;rw[qY ws _ hn λv hv=>h v (mem_cons_of_mem _ hv),pI]
 rw[e1,yz,AK ws λv hv=>h v (mem_cons_of_mem _ hv)];have hr:=λv hv=>h v (mem_cons_of_mem w hv);by_cases hg:w.neg=true
 ·have e2:rm (tl (term w))=43::tl (term w):=by
   have:=Mw hw;rw[if_pos hg]at this;have e3:tl (term w)=45::tl w.word:=by
    unfold term;rw[if_pos hg,aR];rfl
   rw[<- e3]at this;exact this
  rw[e2,if_pos hg,cons_append];have:=gF 43 [] (tl (term w)++ws.flatMap λw=>43::tl (term w)) (by simp);rw[nil_append]at this;rw[this,qc _ ws (pY hw) hr];rfl
 ·have e3:tl (term w)=tl w.word:=by
   unfold term;rw[if_neg hg]
  rw[if_neg hg,e3,mI _ hw.nm,<- e3,qc _ ws (pY hw) hr];rfl
theorem EF(w:Wd)(ws:List Wd)(h:∀v∈w::ws,Gw v):((tl ((w::ws).foldl eF ⟨#[]⟩)).head? == some 45)=w.neg:=by
 have hw:=h w mem_cons_self;have e1:tl ((w::ws).foldl eF ⟨#[]⟩)=tl (term w)++ws.flatMap λw=>if w.neg=true then 45::tl w.word else 43::tl w.word:=by
  show tl (ws.foldl eF (eF ⟨#[]⟩ w))=_;rw[qY ws _ (tQ _ hw) λv hv=>h v (mem_cons_of_mem _ hv),pI]
 rw[e1];unfold term;cases hg:w.neg with
 |true=>rw[if_pos rfl,aR];rfl
 |false=>
  rw[if_neg Bool.false_ne_true];cases hc:tl w.word with
  |nil=>exact absurd hc hw.ne
  |cons a r=>
   have:a≠45:=λz=>hw.nm (by rw[hc,z];exact mem_cons_self);show(some a==some 45)=false;simpa using this
end
end Tx
namespace Tx
noncomputable section
noncomputable def glue:List (List Nat)->List Nat
 |[]=>[]
 |[a]=>a
 |a::b::r=>a++32::glue (b::r)
theorem yj:∀(a:List Nat) (r:List (List Nat)),(∀x∈a::r,32∉x)->bB 32 (glue (a::r))=a::r
 |a,[],h=>fB 32 a (h a mem_cons_self)
 |a,b::r,h=>by
  show bB 32 (a++32::glue (b::r))=_;rw[gF 32 a _ (h a mem_cons_self),yj b r λx hx=>h x (mem_cons_of_mem _ hx)]
end
end Tx
namespace Tx
noncomputable section
open PySem
variable {c:Nat}
theorem Mh(h3:c≠43)(h5:c≠45){t:PySem.Str}{w:Wd}(ht:c∉tl t)(hw:c∉tl w.word):c∉tl (eF t w):=by
 have e1:tl zM=[45]:=rfl;have e2:tl cP=[43]:=rfl;unfold eF;split
 ·rw[aR,aR,e1];intro z;rcases mem_append.mp z with z|z
  ·rcases mem_append.mp z with z|z
   ·exact ht z
   ·exact h5 (mem_singleton.mp z)
  ·exact hw z
 ·split
  ·exact hw
  ·rw[aR,aR,e2];intro z;rcases mem_append.mp z with z|z
   ·rcases mem_append.mp z with z|z
    ·exact ht z
    ·exact h3 (mem_singleton.mp z)
   ·exact hw z
theorem oE{c:Nat}(h3:c≠43)(h5:c≠45):∀(ws:List Wd) (t:PySem.Str),c∉tl t->(∀w∈ws,c∉tl w.word)->c∉tl (ws.foldl eF t)
 |[],t,h,_=>h
 |w::ws,t,h,hw=>by
  rw[List.foldl_cons];exact oE h3 h5 ws _ (Mh h3 h5 h (hw w mem_cons_self)) λv hv=>hw v (mem_cons_of_mem _ hv)
theorem Mi(t:PySem.Str)(w:Wd):(tl (eF t w)).length<=(tl t).length+(tl w.word).length+1:=by
 have e1:tl zM=[45]:=rfl;have e2:tl cP=[43]:=rfl;unfold eF;split
 ·rw[aR,aR,e1,length_append,length_append];simp;omega
 ·split
  ·omega
  ·rw[aR,aR,e2,length_append,length_append];simp;omega
end
end Tx
namespace T8
noncomputable section
open PySem PySem.Spec PyProof.Rows L2 L3
open PySem.W (Dat kqdOk)
open Tx (tl aR d6)
open PySem PySem.Spec PyProof PyProof.Rows PySem.Builtin.Str L2 L3
open PySem PySem.Spec PyProof PyProof.Rows L2 L3
local macro_rules | `(~~~$x) => `(some (L3.Slot.ag $x))
local macro_rules | `(tactic| simp! [$xs,*]) => `(tactic| simp only [gq, bY, bG, cW, eI, iW, dX, rn, yr, aZ, ja, L3.f2, L3.f1, aj, fC, ax, aK, qG, lb, cu, dJ, Js, Ht, Jr, kD, pJ, gZ, dD, bo, oK, vg, qx, List.map_cons, List.map_nil, List.getElem?_cons_zero, List.getElem?_cons_succ, Option.join_some, Option.bind_some, Option.map_some, List.set_cons_zero, List.set_cons_succ, List.length_cons, List.length_nil, List.cons_append, List.nil_append, List.replicate, Nat.add_sub_cancel, Nat.zero_add, Nat.reduceAdd, Nat.reduceSub, if_true, if_false, Bool.false_eq_true, Bool.not_true, Bool.not_false, decide_true, decide_false, reduceIte, reduceCtorEq, Nat.reduceEqDiff, Nat.reduceLeDiff, yq, yp, iL, lZ, EJ, gd, fP, mB, kn, bu, fL, d7, j8, cL, aName, j5, gf, List.foldl_cons, List.foldl_nil, Option.map_none, Option.bind_none, List.isEmpty, List.reverse_cons, List.reverse_nil, and_self, and_true, true_and, Option.some.injEq, qN, mE, vS, setG, List.append_nil, L3.h2, vK, NI, zk, pM, km, List.length_set, List.append_eq, $xs,*])
local macro_rules | `(tactic| dsimp! [$xs,*]) => `(tactic| simp only [gq, bY, bG, cW, eI, iW, dX, rn, yr, aZ, ja, L3.f2, L3.f1, aj, fC, ax, aK, qG, lb, cu, dJ, Js, Ht, Jr, kD, pJ, gZ, dD, bo, oK, vg, qx, List.map_cons, List.map_nil, List.getElem?_cons_zero, List.getElem?_cons_succ, Option.join_some, Option.bind_some, Option.map_some, List.set_cons_zero, List.set_cons_succ, List.length_cons, List.length_nil, List.cons_append, List.nil_append, List.replicate, Nat.add_sub_cancel, Nat.zero_add, Nat.reduceAdd, Nat.reduceSub, if_true, if_false, Bool.false_eq_true, Bool.not_true, Bool.not_false, decide_true, decide_false, reduceIte, reduceCtorEq, Nat.reduceEqDiff, Nat.reduceLeDiff, yq, yp, iL, lZ, EJ, gd, fP, mB, kn, fL, d7, j8, cL, aName, j5, gf, List.foldl_cons, List.foldl_nil, Option.map_none, Option.bind_none, List.isEmpty, List.reverse_cons, List.reverse_nil, and_self, and_true, true_and, Option.some.injEq, qN, mE, vS, setG, List.append_nil, L3.h2, vK, NI, zk, pM, km, List.length_set, List.append_eq, $xs,*])
local macro_rules | `(tactic| simp!) => `(tactic| simp only [bY, List.map_cons, List.map_nil, List.length_cons, List.length_nil, List.cons_append, List.nil_append, List.replicate])
local macro_rules | `(tactic| dsimp!) => `(tactic| simp only [setG, List.foldl_cons, List.foldl_nil, List.set_cons_succ, List.set_cons_zero])
noncomputable def top (i:Nat):Stmt:=PySem.Challenge.pw_stepjudge_k05_sums_refused.main.body.getD i (.Pass ⟨0,0,0,0⟩)
structure TX (mg:Str->Option Value):Prop where
 abs:mg "abs"=none
 len:mg "len"=none
 int:mg "int"=none
 isinstance:mg "isinstance"=none
 tuple:mg "tuple"=none
 range:mg "range"=none
 zip:mg "zip"=none
 list:mg "list"=none
 str:mg "str"=none
 all:mg "all"=none
 min:mg "min"=none
 bool:mg "bool"=none
variable {n:Nat}
theorem bC(h:n<=4000):n<sizeLine:=by rw[sizeLine_eq];omega
theorem sz(h:n<=4000):n<=sizeLine:=le_of_lt (bC h)
noncomputable abbrev aW (x:Int×Int):Dat:=.tuple [.int x.1,.int x.2]
theorem LC(c:Int):(if c<0 then -c else c)=(c.natAbs:Int):=by split<;>omega
theorem log2_small{k:Nat}(hk:0<k)(h:n<2^k):n.log2<k:=by
 by_cases e:n=0
 ·subst e;simpa using hk
 ·exact(Nat.log2_lt e).mpr h
theorem Fv(a b:Dat):iZ [a,b] 0=some a:=rfl
theorem Fu(a b:Dat):iZ [a,b] 1=some b:=rfl
variable {b:Int}
theorem bL(a:Int)(h:0<b):0<=a.fmod b/\a.fmod b<b:=⟨Int.fmod_nonneg_of_pos a h,Int.fmod_lt_of_pos a h⟩
theorem L9{a m:Int}(hb:0<b)(h0:0<=a)(h:a<b*m):0<=a.fdiv b/\a.fdiv b<m:=by
 rw[Int.fdiv_eq_ediv_of_nonneg a (Int.le_of_lt hb)];exact⟨Int.ediv_nonneg h0 (Int.le_of_lt hb),Int.ediv_lt_of_lt_mul hb (by rw[mul_comm];exact h)⟩
theorem mulR(a:Int)(h1: -(2^64)<b)(h2:b<2^64):pB (.int a) (.int b)=some (.int (a*b)):=zd (.of_right (intBits_le_64 h1 h2))
theorem mulL{a:Int}(b:Int)(h1: -(2^64)<a)(h2:a<2^64):pB (.int a) (.int b)=some (.int (a*b)):=zd (.of_left (intBits_le_64 h1 h2))
theorem IE:yK (.int 10) (.int 18)=some (.int (10^18)):=jm (by unfold Ah;decide)
theorem Qo:yK (.int 2) (.int 28)=some (.int (2^28)):=jm (by unfold Ah;decide)
theorem Uq:yK (.int 10) (.int 6)=some (.int (10^6)):=jm (by unfold Ah;decide)
noncomputable abbrev S (i:Int):Str:=Str.ofString (toString i)
theorem Ld(x:Str):Str.ofString ""++x=x:=by
 rw[Str.ofString_eq_toList];show Str.mk (_++x.cps)=x;simp
def JU (p:Int):Prop:=p.natAbs<10^60
theorem JU.log{p:Int}(h:JU p):p.natAbs.log2<200:=log2_small (by decide) (lt_of_lt_of_le h (by decide))
theorem Gi{p:Int}(h:JU p):sM [.int p]=some (.str (S p)):=by
 show(if p.natAbs.log2<1920 then _ else _)=_;have:=h.log;exact if_pos (by omega)
noncomputable def XR (p q:Int):Str:=if q=1 then S p else S p++Str.ofString "/"++S q
variable {a b:Str}
theorem A1(h:a.length+b.length<=sizeLine):mf (.str a) (.str b)=some (.str (a++b)):=if_pos h
theorem lY(s:String):(Str.ofString s).length=s.length:=PySem.ofString_length s
theorem jw(a b:Str):(a++b).length=a.length+b.length:=PySem.strLen_append a b
noncomputable def stir (c k:Int):Int:=if 10^18<=c then((c-10^18)/2^(28*k).toNat).fmod (2^28)else
 (((((c+1013*k+1)*16807).fmod 2147483647*((c+1013*k+1)*16807).fmod 2147483647).fmod 2147483629*39373).fmod 2147483587).fdiv 8
theorem kY(c k:Int):0<=stir c k/\stir c k<268435456:=by
 unfold stir;split
 ·exact bL _ (by decide)
 ·have h:=bL ((((c+1013*k+1)*16807).fmod 2147483647*((c+1013*k+1)*16807).fmod 2147483647).fmod 2147483629*39373) (b:=2147483587) (by decide);exact L9 (by decide) h.1 (by omega)
variable {K:Fg} {w:World} {base:Heap} {mg:Str->Option Value} {P:Program}
theorem UZ(T:TX mg)(U:FnAt K mg "_law_stir" (top 48) ["cell","k"]):∃F,Dn P w K mg base 1 "_law_stir" ["cell","k"] 2 F/\∀c k:Int,0<=k->F [.int c,.int k]=some (.int (stir c k)):=by
 refine⟨_,ek ["cell","k","number"] U λnd _ _ _ _ _ _ _ hr=>(ao (aH (Kn (ae 0) (rC ai ai)) (aw (aN (bh (Ko (ow (ae 0) (rC ai ai)) (eQ ai (ae 1))) (rC ai ai)))) aE)
  (ao (az 2 nd (bh (eQ (fm (fm (ae 0) (eQ ai (ae 1))) ai) ai) ai))
  (ao (az 2 nd (bh (eQ (ae 2) (ae 2)) ai))
  (aw (aN (ck (bh (eQ (ae 2) ai) ai) ai)))))),?_⟩
 intro c k h;have m1:pB (.int 28) (.int k)=some (.int (28*k)):=mulL k (by decide) (by decide);have m2:pB (.int 1013) (.int k)=some (.int (1013*k)):=mulL k (by decide) (by decide);by_cases hc:10^18<=c
 ·have e:stir c k=((c-10^18)/2^(28*k).toNat).fmod (2^28):=if_pos hc;have s1:Mn (.int (c-10^18)) (.int (28*k))=some (.int ((c-10^18)/2^(28*k).toNat)):=jm (by unfold PV;omega);have s2:iE (.int ((c-10^18)/2^(28*k).toNat)) (.int (2^28))=some (.int (stir c k)):=by rw[e];exact bg (by decide)
  simp![IE,Qo,Bl,hc,mV,m1,s1,s2]
 ·have e:stir c k=(((((c+1013*k+1)*16807).fmod 2147483647*((c+1013*k+1)*16807).fmod 2147483647).fmod 2147483629*39373).fmod 2147483587).fdiv 8:=if_neg hc;rw[e];have b1:=bL ((c+1013*k+1)*16807) (b:=2147483647) (by decide);have m3:=mulR (c+1013*k+1) (b:=16807) (by decide) (by decide);have m4:=bg (a:=(c+1013*k+1)*16807) (b:=2147483647) (by decide);generalize ((c+1013*k+1)*16807).fmod 2147483647=n1 at b1 m4 ⊢;have m5:pB (.int n1) (.int n1)=some (.int (n1*n1)):=mulL n1 (by omega) (by omega);have m6:=bg (a:=n1*n1) (b:=2147483629) (by decide);have m7:=mulR ((n1*n1).fmod 2147483629) (b:=39373) (by decide) (by decide);have m8:=bg (a:=(n1*n1).fmod 2147483629*39373) (b:=2147483587) (by decide);have m9:=cF (a:=((n1*n1).fmod 2147483629*39373).fmod 2147483587) (b:=8) (by decide) (by decide);simp![IE,Bl,hc,m2,gz,m3,m4,m5,m6,m7,m8,m9]
noncomputable def QX:aD->Nat
 |_::some (.ag (.int b))::_=>b.natAbs+1
 |_=>0
noncomputable abbrev P2:ay->Option Bool:=aZ (f2 gi (aj 1) (fC (Dat.int 0)))
theorem uO(x z:Option Slot)(b:Int)(r:aD):P2 (bo (x::some (.ag (.int b))::r))=some (!decide (b=0)):=by
 show(gi (.int b) (.int 0)).bind oK=_;rw[KR];rfl
noncomputable abbrev Nu:aD->Option Fl:=Gn 0 1 (ax (aj 1) (ax (f2 iE (aj 0) (aj 1)) aK))
theorem B9:∀(n:Nat) (a b:Int),0<=b->b.natAbs<n->∃c:Int,iL P2 Nu n [~~~.int a,~~~.int b]=some (.nx [~~~.int c,~~~.int 0])/\c.natAbs=gcd a b
 |0,_,_,_,h=>by omega
 |n+1,a,b,hb,h=>by
  by_cases e:b=0
  ·subst e;refine⟨a,xX (by rw[uO _ none];rfl),?_⟩;rw[Int.gcd_zero]
  ·have NW:0<=a.fmod b:=Int.fmod_nonneg_of_pos a (by omega);have zu:a.fmod b<b:=Int.fmod_lt_of_pos a (by omega);have hbody:Nu [~~~.int a,~~~.int b]=some (.nx [~~~.int b,~~~.int (a.fmod b)]):=by
    have e1:ax (aj 1) (ax (f2 iE (aj 0) (aj 1)) aK) (dD [~~~.int a,~~~.int b])=some [.int b,.int (a.fmod b)]:=by
     show((iE (.int a) (.int b)).bind λd=>some [d]).map _=_;rw[show iE (.int a) (.int b)=some (.int (a.fmod b))from jm e];rfl
    unfold Nu Gn;rw[e1];rfl
   obtain⟨c,q,hc⟩:=B9 n b (a.fmod b) NW (by omega);refine⟨c,?_,?_⟩
   ·rw[xW (by rw[uO _ none,decide_eq_false e];rfl) hbody,q]
   ·rw[hc,Fr.zF a b (by omega)]
theorem R6(T:TX mg)(U:FnAt K mg "_law_divisor" (top 49) ["one","other"]):∃F,Dn P w K mg base 1 "_law_divisor" ["one","other"] 2 F/\∀a b:Int,0<=b->F [.int a,.int b]=some (.int (gcd a b)):=by
 refine⟨_,ek ["one","other"] U λnd _ _ _ _ _ _ _ hr=>(ao (u0 QX PassesOwn.never (gH hr (ae 1) ai) (aw (Gv 0 1 rfl nd (by decide) (af (ae 1) (af (bh (ae 0) (ae 1)) ah (hs:=bZ))))))
  (aw (aN (vx T.abs (af (ae 0) ah))))),?_⟩
 intro a b h;obtain⟨c,q,hc⟩:=B9 (b.natAbs+1) a b h (by omega);refine bQ ?_;refine(aG q).trans ?_;refine gj ?_;show some (Dat.int (if c<0 then -c else c))=_;rw[LC,hc]
noncomputable def eP (n d:Int):Int×Int:=(Fr.num n d,Fr.den n d)
theorem NF:intD [.bool false]=some (.int 0):=rfl
theorem Ls(T:TX mg){Fd:List Dat->Option Dat}(CK:Dn P w K mg base 1 "_law_divisor" ["one","other"] 2 Fd)(hd:∀a b:Int,0<=b->Fd [.int a,.int b]=some (.int (gcd a b)))(U:FnAt K mg "_law_least" (top 50) ["n","d"]):
  ∃F,Dn P w K mg base 2 "_law_least" ["n","d"] 2 F/\∀n d:Int,0<d->d.natAbs<10^600->F [.int n,.int d]=some (aW (eP n d)):=by
 refine⟨_,ek ["n","d","by"] U λnd _ _ _ _ _ _ _ hr=>(ao (az 2 nd (eQ (aL CK hr (af (ae 0) (af (ae 1) ah))) (ow ai (eQ ai (pf T.int (af (yE (ae 1) ai) ah (hs:=oQ)))))))
  (aw (aN (dZ (k:=0) (af (ck (ae 0) (ae 2)) (af (ck (ae 1) (ae 2)) ah (hs:=bZ)) (hs:=bZ)))))),?_⟩
 intro n d h hb;have e1:=hd n d (Int.le_of_lt h);have c:¬d<0:=by omega
 have gp:=Fr.mS (n:=n) (d:=d) (by omega);have gl:gcd n d<=d.natAbs:=Nat.le_of_dvd (by omega) (Int.ofNat_dvd_left.mp (gcd_dvd_right n d));have lg:(gcd n d:Int).natAbs.log2<9000:=lt_trans (log2_small (k:=2000) (by decide) (by
  rw[natAbs_natCast];exact lt_of_le_of_lt gl (lt_trans hb (by decide)))) (by decide)
 have q1:=cF (a:=n) (b:=(gcd n d:Int)) (by omega) lg;have q2:=cF (a:=d) (b:=(gcd n d:Int)) (by omega) lg;have en:n.fdiv (gcd n d:Int)=Fr.num n d:=by unfold Fr.num Fr.dv;rw[if_neg c]
 have ed:d.fdiv (gcd n d:Int)=Fr.den n d:=by unfold Fr.den Fr.dv;rw[if_neg c]
 rw[en]at q1;rw[ed]at q2;have z2:2<=sizeLine:=sz (by decide);have m0:=mulR 2 (b:=0) (by decide) (by decide);have m1:=mulR (gcd n d:Int) (b:=1) (by decide) (by decide);rw[Int.mul_one]at m1;generalize (gcd n d:Int)=g at *;simp![e1,i6,eq_false c,NF,m0,show(2:Int)*0=0 from rfl,mV,show(1:Int)-0=1 from rfl,m1,q1,q2,z2,eP]
open Tx (tl aR d6)
noncomputable def lets:Str:=Str.ofString "abcdefghijklmnopqrstuvwxyz"
noncomputable def ch (k:Nat):Str:=⟨#[97+k]⟩
theorem KY:lets=⟨#[97,98,99,100,101,102,103,104,105,106,107,108,109,110,111,112,113,114,115,116,117,118,119,120,121,122]⟩:=by decide +kernel
theorem KZ{k:Nat}(h:k<26):lets.cps[k]?=some (97+k):=by
 rw[KY];revert k;decide
theorem uu{i:Int}(h0:0<=i)(h:i<26):qD (.str lets) (.int i)=some (.str (ch i.toNat)):=by
 show(if 0<=i/\i<1000 then(lets.cps[i.toNat]?).map _ else none)=_;rw[if_pos ⟨h0,by omega⟩,KZ (by omega)];rfl
def Lw (x:Str):Prop:=∀c∈tl x,97<=c/\c<=122
structure Nm (x:Str):Prop where
 ne:tl x≠[]
 len:x.length<=8
 lw:Lw x
theorem bH(x:Str):(tl x).length=x.length:=by simp[Str.length]
theorem Lw.app(ha:Lw a)(hb:Lw b):Lw (a++b):=λc hc=>by
 rw[aR]at hc;rcases mem_append.mp hc with h|h
 ·exact ha c h
 ·exact hb c h
theorem xH{k:Nat}(h:k<26):Lw (ch k):=λc hc=>by
 have:c∈[97+k]:=hc;rw[mem_singleton.mp this];omega
theorem zU(k:Nat):(ch k).length=1:=rfl
theorem xJ:∀ys:List Str,tl (Txt.join (Str.ofString "") ys)=ys.flatMap tl:=by
 intro ys;show tl (Builtin.Str.glued _ ys)=_;rw[PySem.StrLaws.glued_eq_join];have he:Str.ofString ""=⟨#[]⟩:=by decide +kernel
 rw[he];have key:∀ys:List Str,tl (Str.join ⟨#[]⟩ ys)=ys.flatMap tl:=by
  intro ys;induction ys with
  |nil=>rfl
  |cons y ys ih=>
   cases ys with
   |nil=>show tl y=_;simp
   |cons z ys=>
    show tl (y++⟨#[]⟩++Str.join ⟨#[]⟩ (z::ys))=_;rw[aR,aR,ih,flatMap_cons];show tl y++[]++_=_;rw[append_nil];rfl
 exact key ys
theorem strs_map:∀ys:List Str,kn (ys.map Dat.str)=some ys
 |[]=>rfl
 |y::ys=>by
  show(kn (ys.map Dat.str)).map _=_;rw[strs_map ys];rfl
variable {x:Str} {ρ:ay} {ys:List Str}
theorem vH{fs:ay->Option (List Dat)}(h:fs ρ=some [.list (ys.map .str)])(hz:(ys.map (·.length)).sum+ys.length*x.length<=16777216):fP mB (fC (.str x)) fs ρ=some (.str (Txt.join x ys)):=by
 unfold fP;rw[h];show(kn (ys.map Dat.str)).bind _=_;rw[strs_map];exact if_pos hz
theorem in_str(x:Str)(ns:List Str):inD (.str x) (.list (ns.map .str))=some (.bool (ns.contains x)):=by
 have nF:(ns.map Dat.str).all f9=true:=by rw[List.all_map,all_eq_true];exact λ_ _=>rfl
 show(if f9 (.str x)=true/\(ns.map Dat.str).all f9=true then some ((ns.map Dat.str).any λz=>kT z (.str x))else none).map Dat.bool=_;rw[if_pos ⟨rfl,nF⟩,List.any_map];show some (Dat.bool (ns.any λz=>z==x))=_;rw[List.contains_eq_any_beq];congr 2
 congr 1
 funext z
 exact Bool.beq_comm
theorem k7(x:Str)(ns:List Str):f7 (.str x) (.list (ns.map .str))=some (.bool (!ns.contains x)):=by
 have h:=in_str x ns;unfold inD at h;obtain⟨k,e1,e2⟩:=bT h;unfold f7;rw[e1];injection e2 with e2;show some (Dat.bool (!k))=_;rw[e2]
theorem wF:∀(ns l:List Str),l.Nodup->l.length<=(l.filter λx=>!ns.contains x).length+ns.length
 |[],l,_=>by
  have e:(l.filter λx=>!([]:List Str).contains x)=l:=List.filter_eq_self.mpr (λx _=>rfl);rw[e];exact Nat.le_add_right _ _
 |n::ns,l,h=>by
  have ih:=wF ns l h;have e:(l.filter λx=>!(n::ns).contains x)=(l.filter λx=>!ns.contains x).filter (λx=>x !=n):=by
   rw[List.filter_filter];apply List.filter_congr
   intro x _;rw[List.contains_cons,Bool.not_or];rfl
  have hn:=h.filter (λx=>!ns.contains x);rw[e,<- List.Nodup.erase_eq_filter hn n];have:=List.le_length_erase (a:=n) (l:=l.filter λx=>!ns.contains x);rw[length_cons];omega
open Tx (tl aR d6)
abbrev FR (F:List Dat->Option Dat):Prop:=∀c k:Int,0<=k->F [.int c,.int k]=some (.int (stir c k))
variable {j:Nat}
theorem nN(h:j<=x.length)(hx:x.length<=4000):∃y,nZ (.str x) none (some (j:Int))=some (.str y)/\tl y=(tl x).take j:=by
 refine⟨_,if_pos (sz hx),?_⟩;have e:=eq_of_beq (slice_closes_to (x:=x) (j:=(j:Int)) ⟨by omega,by
  show(j:Int)<=((tl x).length:Nat);rw[bH];omega⟩)
 rw[e];show(List.take _ (List.drop _ (tl x))).toArray.toList=_;simp
theorem jV(h:j<=x.length)(hx:x.length<=4000):∃y,nZ (.str x) (some (j:Int)) none=some (.str y)/\tl y=(tl x).drop j:=by
 refine⟨_,if_pos (sz hx),?_⟩;have e:=eq_of_beq (slice_closes_from (x:=x) (i:=(j:Int)) ⟨by omega,by
  show(j:Int)<=((tl x).length:Nat);rw[bH];omega⟩)
 rw[e];show(List.take _ (List.drop _ (tl x))).toArray.toList=_;simp;exact take_of_length_le (by rw[length_drop,bH];exact le_refl _)
theorem ot:∀l:List Nat,(l.map λ_=>1).sum=l.length
 |[]=>rfl
 |x::l=>by rw[map_cons,sum_cons,ot l,length_cons];omega
variable {ds:List Dat}
theorem XZ{i:Nat}{d:Dat}(h:ds[i]?=some d):iZ ds (i:Int)=some d:=by
 have hl:i<ds.length:=(List.getElem?_eq_some_iff.mp h).1;unfold L2.iZ L2.sd;rw[if_pos (by omega),if_pos (by omega)];simpa using h
theorem qB{l:List Nat}(h:tl x=l):x.length=l.length:=by rw[<- bH,h]
variable {y:Str}
theorem B6(h:Lw x)(e:tl y=(tl x).take j):Lw y:=λc hc=>h c (List.mem_of_mem_take (e▸hc))
theorem KU(h:Lw x)(e:tl y=(tl x).drop j):Lw y:=λc hc=>h c (List.mem_of_mem_drop (e▸hc))
theorem fS(h:a.length+b.length<=4000):jO (.str a) (.str b)=some (.str (a++b)):=A1 (sz h)
noncomputable def nK:List Str:=(range' 0 6).map λn=>Str.ofString "zz"++ch n
theorem LJ:nK.Nodup:=by
 have e:nK=[⟨#[122,122,97]⟩,⟨#[122,122,98]⟩,⟨#[122,122,99]⟩,⟨#[122,122,100]⟩,⟨#[122,122,101]⟩,⟨#[122,122,102]⟩]:=by decide +kernel
 rw[e];decide
noncomputable def bw:List Str:=["given","so","from","ask"]
theorem LK:∀x∈nK,x∉bw:=by
 have e:nK=[⟨#[122,122,97]⟩,⟨#[122,122,98]⟩,⟨#[122,122,99]⟩,⟨#[122,122,100]⟩,⟨#[122,122,101]⟩,⟨#[122,122,102]⟩]:=by decide +kernel
 rw[e];decide +kernel
theorem LI:∀x∈nK,Nm x:=by
 intro x hx;obtain⟨n,hn,rfl⟩:=mem_map.mp hx;have Wn:n<6:=by
  have:=List.mem_range'.mp hn;obtain⟨i,h1,h2⟩:=this;omega
 have hz:Lw (Str.ofString "zz"):=by
  have e:Str.ofString "zz"=⟨#[122,122]⟩:=by decide +kernel
  rw[e];intro c hc;have:c∈[122,122]:=hc;simp at this;omega
 refine⟨?_,?_,hz.app (xH (by omega))⟩
 ·rw[aR];intro z;have:=(append_eq_nil_iff.mp z).2;cases this
 ·rw[jw,lY,zU];decide
variable {Fs:List Dat->Option Dat}
theorem Lp(T:TX mg)(dG:Dn P w K mg base 1 "_law_stir" ["cell","k"] 2 Fs)(hs:FR Fs)(U:FnAt K mg "_law_names" (top 51) ["head","k","many"]):
  ∃F,Dn P w K mg base 2 "_law_names" ["head","k","many"] 3 F/\∀c:Int,∃d,(∃ns:List Str,d=.list (ns.map .str)/\ns.length=3/\(∀x∈ns,Nm x)/\ns.Nodup/\∀x∈ns,x∉bw)/\F [.int c,.int 300,.int 3]=some d:=by
 refine⟨_,ek ["head","k","many","letters","size","stem","found","j","number","at","word"] U λnd _ _ _ _ _ _ _ hr=>(ao (az 3 nd ar)
  (ao (az 4 nd (fm ai (bh (aL dG hr (af (ae 0) (af (ae 1) ah))) ai)))
  (ao (az 5 nd (pe ar (af (dj (ku rfl (iU (tn:=["j"]) (fv:=["letters","k","head"]) (js:=[3,1,0]) rfl (by decide +kernel) (by decide +kernel) rfl (by decide +kernel) (by decide +kernel) rfl
   (λx hx=>by((have jF:x="letters"\/x="k"\/x="head":=(by simpa using hx));(rcases jF with rfl|rfl|rfl<;>exact⟨_,rfl⟩)))
   (λp hp=>by((have jr:p=(("letters" : Str),(3:Nat))\/p=(("k" : Str),(1:Nat))\/p=(("head" : Str),(0:Nat)):=(by simpa using hp));(rcases jr with rfl|rfl|rfl<;>exact⟨rfl,.inr (.inl rfl),.inl rfl,λz=>by cases z⟩)))) (lr T.range (af (ae 4) ah)) (λ_ _ _ _=>(bp 0 (show(["j","letters","k","head"]:List Str).Nodup by decide +kernel))) (λ_ _ _ _=>dY) (λ_ _ _ _=>(iT (ae 1) (bh (aL dG hr (af (ae 3) (af (fm (fm (ae 2) ai) (ae 0)) ah (hs:=bZ)))) ai))) (cY rfl))) ah)))
  (ao (iy 6 nd (j6 ah))
  (ao (ub PassesOwn.never rfl T.range (af (ae 2) ah) (bp 7 nd) (ao (az 8 nd (aL dG hr (af (ae 0) (af (fm (fm (ae 1) ai) (ae 7)) ah (hs:=bZ)))))
  (ao (az 9 nd (bh (ae 8) (ae 4)))
  (ao (qg 10 nd (aM (aM (br (ae 5) bj (aV (ae 9))) (iT (ae 3) (bh (ck (ae 8) ai) ai))) (br (ae 5) (aV (fm (ae 9) ai)) bj)))
  (ao (aH (aX hr (bh (ck (ae 8) ai) ai) ai) (aw (qg 10 nd (br (ae 5) bj (aV (fm (ae 9) ai))))) aE)
  (ao (aH (cE (gG (rB (ae 10) (ae 6)) (fR (rB (ae 10) (cq (af ar (af ar (af ar (af ar ah))))))))) (aw (qg 10 nd (aB (dj (fK rfl (iU (tn:=["one"]) (fv:=["found"]) (js:=[6]) rfl (by decide +kernel) (by decide +kernel) rfl (by decide +kernel) (by decide +kernel) rfl
   (λx hx=>by((have jF:x="found":=(by simpa using hx));(rcases jF with rfl<;>exact⟨_,rfl⟩)))
   (λp hp=>by((have jr:p=(("found" : Str),(6:Nat)):=(by simpa using hp));(rcases jr with rfl<;>exact⟨rfl,.inr (.inl rfl),.inl rfl,λz=>by cases z⟩)))) (dj (ku rfl (iU (tn:=["n"]) (fv:=["letters"]) (js:=[3]) rfl (by decide +kernel) (by decide +kernel) rfl (by decide +kernel) (by decide +kernel) rfl
   (λx hx=>by((have jF:x="letters":=(by simpa using hx));(rcases jF with rfl<;>exact⟨_,rfl⟩)))
   (λp hp=>by((have jr:p=(("letters" : Str),(3:Nat)):=(by simpa using hp));(rcases jr with rfl<;>exact⟨rfl,.inr (.inl rfl),.inl rfl,λz=>by cases z⟩)))) (lr T.range (af ai ah)) (λ_ _ _ _=>(bp 0 (show(["n","letters"]:List Str).Nodup by decide +kernel))) (λ_ _ _ _=>dY) (λ_ _ _ _=>(fm ar (iT (ae 1) (ae 0)))) (cY rfl))) (λ_ _ _ _=>(bp 0 (show(["one","found"]:List Str).Nodup by decide +kernel))) (λ_ _ _ _=>(gK (iA (ae 0) (ae 1)))) (λ_ _ _ _=>(ae 0)) (cY rfl))) (bh (ck (ae 8) ai) ai)))) aE)
  (aw (gU 6 (ae 10)))))))))
  (aw (aN (ae 6)))))))),?_⟩
 intro c;refine Mv ?_;have b0:=bL (stir c 300) (b:=8) (by decide);have e0:=hs c 300 (by decide);have e1:=bg (a:=stir c 300) (b:=8) (by decide);obtain⟨m,hm,zu,Wq⟩:∃m:Nat,1+(stir c 300).fmod 8=(m:Int)/\1<=m/\m<=8:=⟨(1+(stir c 300).fmod 8).toNat,by omega,by omega,by omega⟩;show ∃d,_/\bG _ _ [~~~.int c,~~~.int 300,~~~.int 3,none,none,none,none,none,none,none,none]=_;refine sQ (au:=[~~~.int c,~~~.int 300,~~~.int 3,~~~.str lets,none,none,none,none,none,none,none]) (cD rfl) ?_;refine sQ (au:=[~~~.int c,~~~.int 300,~~~.int 3,~~~.str lets,~~~(nat m),none,none,none,none,none,none]) (by simp![e0,e1,gz,hm]) ?_;have gw:∃iV:Str,Lw iV/\iV.length=m/\Txt.join (Str.ofString "") ((range' 0 m).map fun(j:Nat)=>ch ((stir c (300+1+(j:Int))).fmod 26).toNat)=iV:=by
  refine⟨_,?_,?_,rfl⟩
  ·intro x hx;rw[xJ]at hx;obtain⟨y,hy,hx⟩:=List.mem_flatMap.mp hx;obtain⟨j,_,rfl⟩:=mem_map.mp hy;have b:=bL (stir c (300+1+(j:Int))) (b:=26) (by decide);exact xH (k:=((stir c (300+1+(j:Int))).fmod 26).toNat) (by omega) x hx
  ·rw[qB (xJ _),List.length_flatMap,map_map];have:((range' 0 m).map ((λa=>(tl a).length) ∘ fun(j:Nat)=>ch ((stir c (300+1+(j:Int))).fmod 26).toNat))=(range' 0 m).map λ_=>1:=map_congr_left λ_ _=>rfl;rw[this,ot,length_range']
 obtain⟨iV,NX,wL,EL⟩:=gw;refine sQ (au:=[~~~.int c,~~~.int 300,~~~.int 3,~~~.str lets,~~~(nat m),~~~.str iV,none,none,none,none,none]) (cD (d:=.str iV) ?_) ?_
 ·rw[<- EL];refine vH (uM ?_) ?_
  ·rw[map_map];refine lQ (pF (as:=[.int (m:Int)]) rfl (yu (by omega))) ?_ (eV nat _ _ λj hj=>⟨_,rfl,?_⟩)
   ·rw[length_map,length_range'];exact bC (by omega)
   ·have q1:=hs c (300+1+(j:Int)) (by omega);have q2:=bg (a:=stir c (300+1+(j:Int))) (b:=26) (by decide);have b:=bL (stir c (300+1+(j:Int))) (b:=26) (by decide);have q3:=uu b.1 b.2;simp![gz,q1,q2,q3,Function.comp]
  ·have h0:(Str.ofString "").length=0:=by rw[lY];rfl
   rw[h0,Nat.mul_zero,map_map];have:((range' 0 m).map ((λx=>Str.length x) ∘ fun(j:Nat)=>ch ((stir c (300+1+(j:Int))).fmod 26).toNat))=(range' 0 m).map λ_=>1:=map_congr_left λ_ _=>rfl;rw[this,ot,length_range'];omega
 clear EL e0 e1 b0 hm;refine sQ (au:=[~~~.int c,~~~.int 300,~~~.int 3,~~~.str lets,~~~(nat m),~~~.str iV,some (.own ([])),none,none,none,none]) rfl ?_;refine Ms (λΓ=>∃(ns:List Str) (x7 x8 x9 jR:Option Slot),ns.length=3/\((∀x∈ns,Nm x)/\ns.Nodup/\∀x∈ns,x∉bw)/\Γ=[~~~.int c,~~~.int 300,~~~.int 3,~~~.str lets,~~~(nat m),~~~.str iV,some (.own (ns.map .str)),x7,x8,x9,jR]) ?_ ?_
 ·refine Bp (n:=3) (λj Γ=>∃(ns:List Str) (x7 x8 x9 jR:Option Slot),ns.length=j/\((∀x∈ns,Nm x)/\ns.Nodup/\∀x∈ns,x∉bw)/\Γ=[~~~.int c,~~~.int 300,~~~.int 3,~~~.str lets,~~~(nat m),~~~.str iV,some (.own (ns.map .str)),x7,x8,x9,jR]) rfl (by decide) ⟨[],none,none,none,none,rfl,⟨(λx hx=>by cases hx),nodup_nil,λx hx=>by cases hx⟩,rfl⟩ ?_;rintro i Γ hi ⟨ns,x7,x8,x9,jR,wM,⟨iP,Bf,J4⟩,rfl⟩;refine⟨[(7,nat i)],rfl,?_⟩;show ∃au,bG _ _ [~~~.int c,~~~.int 300,~~~.int 3,~~~.str lets,~~~(nat m),~~~.str iV,some (.own (ns.map .str)),~~~(nat i),x8,x9,jR]=_/\_;have q1:=hs c (300+9+(i:Int)) (by omega);have bq:=kY c (300+9+(i:Int));generalize stir c (300+9+(i:Int))=nb at q1 bq;refine uH (Γ1:=[~~~.int c,~~~.int 300,~~~.int 3,~~~.str lets,~~~(nat m),~~~.str iV,some (.own (ns.map .str)),~~~(nat i),~~~.int nb,x9,jR]) (by simp![gz,q1]) ?_;have q2:=bg (a:=nb) (b:=(m:Int)) (by omega);have bt:=bL nb (b:=(m:Int)) (by omega);obtain⟨t,ht⟩:∃t:Nat,nb.fmod (m:Int)=(t:Int):=⟨(nb.fmod (m:Int)).toNat,by omega⟩;rw[ht]at q2 bt;refine uH (Γ1:=[~~~.int c,~~~.int 300,~~~.int 3,~~~.str lets,~~~(nat m),~~~.str iV,some (.own (ns.map .str)),~~~(nat i),~~~.int nb,~~~(nat t),jR]) (by simp![q2]) ?_;obtain⟨A,a1,a2⟩:=nN (x:=iV) (j:=t) (by omega) (by omega);obtain⟨B,b1,b2⟩:=jV (x:=iV) (j:=t+1) (by omega) (by omega);obtain⟨D,d1,d2⟩:=nN (x:=iV) (j:=t+1) (by omega) (by omega);have ct:((t+1:Nat):Int)=(t:Int)+1:=by omega
  rw[ct]at b1 d1;have lA:=qB a2;have lB:=qB b2;have lD:=qB d2;rw[length_take,bH]at lA lD;rw[length_drop,bH]at lB;have r1:=cF (a:=nb) (b:=8) (by decide) (by decide);have r2:=bg (a:=nb.fdiv 8) (b:=26) (by decide);have RA:=bL (nb.fdiv 8) (b:=26) (by decide);have r3:=uu RA.1 RA.2;obtain⟨k,hk,Wz⟩:∃k:Nat,((nb.fdiv 8).fmod 26).toNat=k/\k<26:=⟨_,rfl,by omega⟩;rw[hk]at r3;have lC:=zU k;have s1:=fS (a:=A) (b:=ch k) (by omega);have s2:=fS (a:=A++ch k) (b:=B) (by rw[jw];omega);have n1:Nm (A++ch k++B):=by
   refine⟨?_,by rw[jw,jw];omega,((B6 NX a2).app (xH Wz)).app (KU NX b2)⟩;rw[aR,aR];intro z;have z2:tl (ch k)=[]:=(append_eq_nil_iff.mp (append_eq_nil_iff.mp z).1).2;have z3:[97+k]=[]:=z2;cases z3
  have n2:Nm D:=by
   refine⟨?_,by omega,B6 NX d2⟩;intro z;rw[d2]at z;have:=congrArg List.length z;rw[length_take,bH,List.length_nil]at this;omega
  generalize A++ch k++B=W1 at *;refine uH (Γ1:=[~~~.int c,~~~.int 300,~~~.int 3,~~~.str lets,~~~(nat m),~~~.str iV,some (.own (ns.map .str)),~~~(nat i),~~~.int nb,~~~(nat t),~~~.str W1]) (sR (d:=.str W1) (by simp![gD,eE,dI,kg,a1,r1,r2,r3,s1,gz,b1,s2]) rfl) ?_;have r4:=cF (a:=nb) (b:=208) (by decide) (by decide);have r5:=bg (a:=nb.fdiv 208) (b:=4) (by decide);refine Ou (λΓ=>∃W2:Str,Nm W2/\Γ=[~~~.int c,~~~.int 300,~~~.int 3,~~~.str lets,~~~(nat m),~~~.str iV,some (.own (ns.map .str)),~~~(nat i),~~~.int nb,~~~(nat t),~~~.str W2]) ?_ ?_
  ·by_cases c0:(nb.fdiv 208).fmod 4=0
   ·refine⟨_,(my (by simp![r4,r5,bV,eq_true c0])).trans (sR (d:=.str D) (by simp![gD,eE,dI,kg,gz,d1]) rfl),D,n2,rfl⟩
   ·exact⟨_,(je (by simp![r4,r5,bV,eq_false c0])).trans rfl,W1,n1,rfl⟩
  ·rintro Γ ⟨W2,n3,rfl⟩;clear s1 s2 a1 a2 b1 b2 d1 d2 lA lB lD r1 r2 r3;refine Ou (λΓ=>∃W3:Str,(Nm W3/\W3∉ns/\W3∉bw)/\Γ=[~~~.int c,~~~.int 300,~~~.int 3,~~~.str lets,~~~(nat m),~~~.str iV,some (.own (ns.map .str)),~~~(nat i),~~~.int nb,~~~(nat t),~~~.str W3]) ?_ ?_
   ·have z4:4<=sizeLine:=sz (by decide);have i1:=in_str W2 ns;have i2:inD (.str W2) (.list [.str "given",.str "so",.str "from",.str "ask"])=_:=in_str W2 ["given","so","from","ask"];have g1:ns.contains W2=true↔W2∈ns:=contains_iff_mem;have g2:(["given","so","from","ask"]:List Str).contains W2=true↔W2∈bw:=contains_iff_mem;generalize ns.contains W2=p1 at i1 g1;generalize (["given","so","from","ask"]:List Str).contains W2=p2 at i2 g2;cases hp:p1 || p2
    ·have zp:p1=false/\p2=false:=by
      cases p1
      ·cases p2
       ·exact⟨rfl,rfl⟩
       ·cases hp
      ·cases hp
     refine⟨_,(je ?_).trans rfl,W2,⟨n3,(λz=>Bool.false_ne_true (zp.1.symm.trans (g1.mpr z))),(λz=>Bool.false_ne_true (zp.2.symm.trans (g2.mpr z)))⟩,rfl⟩;obtain⟨rfl,rfl⟩:=zp;simp![i1,i2,z4]
    ·have ml:=wF ns nK LJ;have hz6:nK.length=6:=rfl;have r6:=cF (a:=nb) (b:=832) (by decide) (by decide);have r7:=bg (a:=nb.fdiv 832) (b:=2) (by decide);have b7:=bL (nb.fdiv 832) (b:=2) (by decide);obtain⟨u,hu⟩:∃u:Nat,(nb.fdiv 832).fmod 2=(u:Int):=⟨((nb.fdiv 832).fmod 2).toNat,by omega⟩;rw[hu]at r7 b7;have IZ:u<(nK.filter λx=>!ns.contains x).length:=by omega
     refine⟨_,(my ?_).trans (sR (d:=.str ((nK.filter λx=>!ns.contains x)[u])) (bN (a:=.list ((nK.filter λx=>!ns.contains x).map .str)) (b:=.int (u:Int)) (iG (d:=.list (nK.map .str)) (lQ (out:=nK.map .str) (ds:=(range' 0 6).map nat) (pF (as:=[.int ((6:Nat):Int)]) rfl (yu (by decide))) ?_ ?_) rfl ?_ (gQ (ρ0:=[none,some (.list (ns.map .str))]) Dat.str Dat.str _ _ λx hx=>⟨_,rfl,?_,λ_=>rfl⟩)) ?_ ?_) rfl),(nK.filter λx=>!ns.contains x)[u],⟨LI _ (mem_filter.mp (getElem_mem IZ)).1,(λz=>by
      have:=(mem_filter.mp (getElem_mem IZ)).2;rw[contains_iff_mem.mpr z]at this;cases this),LK _ (mem_filter.mp (getElem_mem IZ)).1⟩,rfl⟩
     ·cases p1
      ·cases p2
       ·cases hp
       ·simp![i1,i2,z4]
      ·simp![i1,i2,z4]
     ·exact bC (by decide)
     ·unfold nK;rw[map_map];refine eV nat _ _ λn hn=>⟨_,rfl,?_⟩;have Wn:n<6:=by
       obtain⟨i,h1,h2⟩:=List.mem_range'.mp hn;omega
      have k1:=uu (i:=(n:Int)) (by omega) (by omega);rw[toNat_natCast]at k1;have k2:mf (.str (Str.ofString "zz")) (.str (ch n))=some (.str (Str.ofString "zz"++ch n)):=A1 (sz (by rw[lY,zU];decide));simp![k1,k2,Function.comp]
     ·exact bC (by decide)
     ·have k1:=k7 x ns;simp![k1]
     ·simp![r6,r7]
     ·refine XZ ?_;rw[getElem?_map,getElem?_eq_getElem IZ];rfl
   ·rintro Γ ⟨W3,⟨n4,n5,n6⟩,rfl⟩;have hz:(ns.map Dat.str).length<sizeLine:=by rw[length_map];exact bC (by omega)
    refine⟨_,by simp![hz,eq_true hz];rfl,ns++[W3],_,_,_,_,by rw[length_append,wM];rfl,⟨?_,?_,?_⟩,by rw[map_append];rfl⟩
    ·intro x hx;rcases mem_append.mp hx with h|h
     ·exact iP x h
     ·rw[mem_singleton.mp h];exact n4
    ·refine List.nodup_append.mpr ⟨Bf,by simp,λa ha b hb=>?_⟩;rw[mem_singleton.mp hb];exact λz=>n5 (z▸ha)
    ·intro x hx;rcases mem_append.mp hx with h|h
     ·exact J4 x h
     ·rw[mem_singleton.mp h];exact n6
 ·rintro Γ ⟨ns,x7,x8,x9,jR,h1,h2,rfl⟩;exact⟨_,⟨ns,rfl,h1,h2⟩,gj rfl⟩
open Tx (tl aR d6)
structure Pt (B:Nat) (x:Int×Int):Prop where
 pos:0<x.2
 zS:gcd x.1 x.2=1
 ln:x.1.natAbs<B
 ld:x.2.natAbs<B
theorem Qn{B:Nat}{n d:Int}(h:0<d)(hn:n.natAbs<B)(hd:d.natAbs<B):Pt B (eP n d):=
 ⟨Fr.den_pos (by omega),Fr.zS (by omega),lt_of_le_of_lt (Fr.Cv (by omega)) hn,lt_of_le_of_lt (Fr.uU (by omega)) hd⟩
noncomputable abbrev cS:Str:=Str.ofString "*"
noncomputable def c0:Str:=Str.ofString "0"
open Tx (tl aR d6)
theorem CV{α:Type}(g:α->Nat)(b:Nat):∀l:List α,(∀x∈l,g x<=b)->(l.map g).sum<=b*l.length
 |[],_=>by simp
 |x::l,h=>by
  have h1:=h x mem_cons_self;have ih:=CV g b l λy hy=>h y (mem_cons_of_mem _ hy);rw[map_cons,sum_cons,length_cons,Nat.mul_succ];omega
open Tx (tl aR d6)
noncomputable abbrev Qx (k:Str) (xs:List (Int×Int)) (b:Int×Int):Dat:=.tuple [.str k,.tuple (xs.map aW),aW b]
noncomputable abbrev cB:Str:=Str.ofString " "
noncomputable def whole (t k:Str) (b:Int×Int):Str:=t++cB++k++cB++XR b.1 b.2
open Tx (tl aR d6)
theorem Y1(a b c e:Int){i:Int}(h0:0<=i)(h:i<4):∃v,(v=a\/v=b\/v=c\/v=e)/\bu (.list [.int a,.int b,.int c,.int e]) (.int i)=some (.int v):=by
 have:i=0\/i=1\/i=2\/i=3:=by omega
 rcases this with rfl|rfl|rfl|rfl
 ·exact⟨a,by omega,rfl⟩
 ·exact⟨b,by omega,rfl⟩
 ·exact⟨c,by omega,rfl⟩
 ·exact⟨e,by omega,rfl⟩
theorem Y2(a b c:Dat){i:Int}(h0:0<=i)(h:i<3):∃v,(v=a\/v=b\/v=c)/\bu (.list [a,b,c]) (.int i)=some v:=by
 have:i=0\/i=1\/i=2:=by omega
 rcases this with rfl|rfl|rfl
 ·exact⟨a,.inl rfl,rfl⟩
 ·exact⟨b,.inr (.inl rfl),rfl⟩
 ·exact⟨c,.inr (.inr rfl),rfl⟩
abbrev Yj (F:List Dat->Option Dat):Prop:=∀n d:Int,0<d->d.natAbs<10^600->F [.int n,.int d]=some (aW (eP n d))
abbrev Pd (x:Int×Int):Prop:=Pt 1000000 x
noncomputable abbrev iF:Str:=Str.ofString "0123456789"
noncomputable abbrev uq:List (Str×Dat):=[("=",.str "="),("<=",.str "<="),("<",.str "<"),(">=",.str "<="),(">",.str "<")]
noncomputable abbrev IQ:List (Str×Dat):=[("given",.int 8),("so",.int 12)]
structure RX (P:Program) (w:World) (K:Fg) (mg:Str->Option Value):Prop where
 le:∃t,mg "LETTERS"=some (.str lets t)
 fi:∃t,mg "FIGURES"=some (.str iF t)
 nn:∃a,TC K mg "NO_NAMES" [.str "given",.str "so",.str "from",.str "ask"] a
 zr:∃a,TC K mg "ZERO" [.int 0,.int 1] a
 on:∃a,TC K mg "ONE" [.int 1,.int 1] a
 ki:DC P w K mg "KINDS" uq
 mo:DC P w K mg "MOST_OF" IQ
 ln:∃t,mg "LONGEST_NAME"=some (.int 8 t)
 lm:∃t,mg "LONGEST_NUMBER"=some (.int 6 t)
 ls:∃t,mg "LONGEST_SUM"=some (.int 80 t)
 mr:∃t,mg "MOST_ROWS"=some (.int 40 t)
 mn:∃t,mg "MOST_NAMES"=some (.int 3 t)
 mm:∃t,mg "MOST_NAMED_ROWS"=some (.int 6 t)
noncomputable def ltB (c:Nat):Bool:=decide (97<=c/\c<=122)
noncomputable def iY (c:Nat):Bool:=decide (48<=c/\c<=57)
noncomputable def gu (x:Str):Bool:=decide (1<=x.length/\x.length<=8)&&!bw.contains x&&(tl x).all ltB
abbrev vd (x:Str):Prop:=∀c∈tl x,c<128
theorem Gk(x:Str):signsOf x=(tl x).map λc=>Dat.str ⟨#[c]⟩:=rfl
theorem Ef{c:Nat}(h:c<128):inD (.str ⟨#[c]⟩) (.str lets)=some (.bool (ltB c)):=by
 show some (Dat.bool _)=_;rw[show(!(Builtin.Str.occurrences lets ⟨#[c]⟩ 0 lets.length 1).isEmpty)=ltB c from Tx.L7 c h]
theorem zj{c:Nat}(h:c<128):inD (.str ⟨#[c]⟩) (.str iF)=some (.bool (iY c)):=by
 show some (Dat.bool _)=_;rw[show(!(Builtin.Str.occurrences iF ⟨#[c]⟩ 0 iF.length 1).isEmpty)=iY c from Tx.L8 c h]
theorem zZ{α:Type}(g:α->Bool)(l:List α):tv [.list (l.map λa=>Dat.bool (g a))]=some (.bool (l.all g)):=by
 have e:(l.map λa=>Dat.bool (g a))=(l.map g).map Dat.bool:=by rw[map_map];rfl
 rw[e];show(tq _).map _=_;rw[L3.zY];show some (Dat.bool ((l.map g).all id))=_;rw[List.all_map];rfl
theorem len_str(h:x.length<=4000):dC [.str x]=some (.int (x.length:Int)):=if_pos (sz h)
theorem NG(x:Str):inD (.str x) (.tuple [.str "given",.str "so",.str "from",.str "ask"])=some (.bool (bw.contains x)):=by
 have h:=in_str x bw;exact h
variable {gt:Dat->Option dH} {ft:ay->Option Bool}
theorem tm{cap:List (Option Nat)}{fe fi:ay->Option Dat}{out:List Dat}(h:fi ρ=some (.str x))(hl:x.length<sizeLine)(hc:cL gt ft fe (gf cap ρ) ((tl x).map λc=>Dat.str ⟨#[c]⟩)=some out):i9 cap gt ft fe fi ρ=some out:=by
 unfold i9;rw[h,Option.bind_some];show(tU (.str x)).bind _=_;unfold tU;rw[Option.bind_some,Gk,if_pos (by rw[length_map,bH];exact hl)];exact hc
abbrev JN (F:List Dat->Option Dat):Prop:=∀x:Str,x.length<=4000->vd x->F [.str x]=some (.bool (gu x))
theorem HJ(T:TX mg)(R:RX P w K mg)(U:FnAt K mg "is_name" (top 30) ["word"]):
  ∃F,Dn P w K mg base 1 "is_name" ["word"] 1 F/\JN F:=by
 refine⟨_,ek ["word"] U λnd _ _ _ _ _ _ _ hr=>(ao (aH (cE (gG (dM (gh ai (aY T.len (af (ae 0) ah)) (eT R.ln))) (fR (rB (ae 0) (il R.nn.choose_spec.mg R.nn.choose_spec.tup))))) (aw (aN jC)) aE)
  (aw (aN (vw rfl T.all (af (dj (p9 rfl (eW (N':=["sign"])) (ae 0) (λ_ _ _ _=>(bp 0 (show(["sign"]:List Str).Nodup by decide +kernel))) (λ_ _ _ _=>dY) (λ_ _ _ _=>(yF (ae 0) (ql R.le))) (cY rfl))) ah))))),?_⟩
 intro x hx ha;have hl:=len_str (x:=x) (by omega);have l1:=dE 1 (x.length:Int);have l2:=dE (x.length:Int) 8;have i1:=NG x;have ec:cL (aName 0) cQ (L3.f2 inD (aj 0) (fC (.str lets))) [none] ((tl x).map λc=>Dat.str ⟨#[c]⟩)=some ((tl x).map λc=>Dat.bool (ltB c)):=
  eV (λc:Nat=>Dat.str ⟨#[c]⟩) (λc=>Dat.bool (ltB c)) (tl x) λc hc=>⟨[(0,.str ⟨#[c]⟩)],rfl,by
   have:=Ef (ha c hc);generalize Dat.str ⟨#[c]⟩=dc at *;generalize Dat.str lets=dl at *;dsimp![this]⟩
 have vP:=zZ ltB (tl x);have ef:i9 [none] (aName 0) cQ (L3.f2 inD (aj 0) (fC (.str lets))) (aj 0) [some (.str x)]=some ((tl x).map λc=>Dat.bool (ltB c)):=tm (x:=x) rfl (bC (by omega)) ec;clear ec;refine bQ ?_;unfold gu;generalize nF:(tl x).all ltB=V4 at *;generalize ((tl x).map λc=>Dat.bool (ltB c))=Sv at *;generalize bw.contains x=bc at *;generalize oD:i9 [none] (aName 0) cQ (L3.f2 inD (aj 0) (fC (.str lets))) (aj 0)=fx at *;show bG _ _ [~~~.str x]=_;by_cases h1:(1:Int)<=(x.length:Int)
 ·rw[decide_eq_true h1]at l1;by_cases h2:(x.length:Int)<=8
  ·rw[decide_eq_true h2]at l2;rw[decide_eq_true (show 1<=x.length/\x.length<=8 by omega),Bool.true_and];cases bc with
   |true=>
    rw[Bool.not_true,Bool.false_and];refine d9 ?_;generalize (x.length:Int)=n at *;generalize Dat.str x=dx at *;dsimp![ia,hl,l1,l2,i1]
   |false=>
    rw[aG (au:=[~~~.str x]) (by
     generalize (x.length:Int)=n at *;generalize Dat.str x=dx at *;dsimp![ia,hl,l1,l2,i1])]
    rw[Bool.not_false,Bool.true_and];change iW (dJ tv (ax (fL (i9 [none] (aName 0) cQ (L3.f2 inD (aj 0) (fC (.str lets))) (aj 0))) aK)) [~~~.str x]=_
    rw[oD];generalize Dat.str x=dx at *;dsimp![ef,vP]
  ·rw[decide_eq_false h2]at l2;rw[decide_eq_false (show ¬(1<=x.length/\x.length<=8) by omega),Bool.false_and,Bool.false_and];refine d9 ?_;generalize (x.length:Int)=n at *;generalize Dat.str x=dx at *;dsimp![ia,hl,l1,l2]
 ·rw[decide_eq_false h1]at l1;rw[decide_eq_false (show ¬(1<=x.length/\x.length<=8) by omega),Bool.false_and,Bool.false_and];refine d9 ?_;generalize (x.length:Int)=n at *;generalize Dat.str x=dx at *;dsimp![ia,hl,l1]
theorem ly(n:Nat):tl (S (n:Int))=Tx.dig n:=by
 show(Str.ofString (toString (n:Int))).cps.toList=_;rw[Str.ofString_eq_toList];show((toString (n:Int)).toList.map Char.toNat).toArray.toList=_;rw[Int.toString_eq_repr,Int.repr_eq_if,if_pos (Int.natCast_nonneg n)];show((Nat.repr ((n:Int).toNat)).toList.map Char.toNat).toArray.toList=_;rw[toNat_natCast,Nat.toList_repr];rfl
theorem rP(h:n<1000000):1<=(S (n:Int)).length/\(S (n:Int)).length<=6:=by
 have e:=ly n;have l:=Tx.By 5 n (by simpa using h);have ne:=Tx.zN n;rw[<- bH,e];refine⟨?_,l⟩;cases hd:Tx.dig n with
 |nil=>exact absurd hd ne
 |cons a r=>exact succ_pos _
theorem rQ(n:Nat):∀c∈tl (S (n:Int)),48<=c/\c<=57:=λc hc=>by
 rw[ly]at hc;exact Tx.Bx n c hc
theorem j4(x:Str)(c:Nat):fA (.str x) [.str ⟨#[c]⟩]=some (.bool ((tl x).head? == some c)):=by
 show some (Dat.bool _)=_;rw[Tx.K4]
theorem P7:(Str.ofString "0" : Str)=⟨#[48]⟩:=by decide +kernel
theorem su:(Str.ofString "-" : Str)=⟨#[45]⟩:=by decide +kernel
theorem vQ:(Str.ofString "/" : Str)=⟨#[47]⟩:=by decide +kernel
theorem me:(Str.ofString "*" : Str)=⟨#[42]⟩:=by decide +kernel
theorem vR:(Str.ofString "+" : Str)=⟨#[43]⟩:=by decide +kernel
theorem P6:(Str.ofString " " : Str)=⟨#[32]⟩:=by decide +kernel
theorem pA(x y:Str):gi (.str x) (.str y)=some (.bool (!decide (x=y))):=rfl
theorem iI(x y:Str):d8 (.str x) (.str y)=some (.bool (decide (x=y))):=rfl
abbrev Ta (F:List Dat->Option Dat):Prop:=∀n:Nat,n<1000000->F [.str (S (n:Int))]=some (.bool true)
theorem EY(T:TX mg)(R:RX P w K mg)(U:FnAt K mg "is_whole" (top 31) ["word"]):
  ∃F,Dn P w K mg base 1 "is_whole" ["word"] 1 F/\Ta F:=by
 refine⟨_,ek ["word"] U λnd _ _ _ _ _ _ _ hr=>(ao (aH (cE (gG (dM (gh ai (aY T.len (af (ae 0) ah)) (eT R.lm))) (fR (cE (cz (bM (g8 (ae 0) (af ar ah))) (cX (gH hr (ae 0) ar))))))) (aw (aN jC)) aE)
  (aw (aN (vw rfl T.all (af (dj (p9 rfl (eW (N':=["sign"])) (ae 0) (λ_ _ _ _=>(bp 0 (show(["sign"]:List Str).Nodup by decide +kernel))) (λ_ _ _ _=>dY) (λ_ _ _ _=>(yF (ae 0) (ql R.fi))) (cY rfl))) ah))))),?_⟩
 intro n hn;obtain⟨h1,h6⟩:=rP hn;have hl:=len_str (x:=S (n:Int)) (by omega);have l1:=dE 1 ((S (n:Int)).length:Int);have l2:=dE ((S (n:Int)).length:Int) 6;rw[decide_eq_true (by omega)]at l1 l2;have ha:=rQ n;have ec:cL (aName 0) cQ (L3.f2 inD (aj 0) (fC (.str iF))) [none] ((tl (S (n:Int))).map λc=>Dat.str ⟨#[c]⟩)=some ((tl (S (n:Int))).map λc=>Dat.bool (iY c)):=
  eV (λc:Nat=>Dat.str ⟨#[c]⟩) (λc=>Dat.bool (iY c)) (tl (S (n:Int))) λc hc=>⟨[(0,.str ⟨#[c]⟩)],rfl,by
   have:=zj (show c<128 by have:=ha c hc;omega);generalize Dat.str ⟨#[c]⟩=dc at *;generalize Dat.str iF=dl at *;dsimp![this]⟩
 have vP:=zZ iY (tl (S (n:Int)));have ht:(tl (S (n:Int))).all iY=true:=all_eq_true.mpr λc hc=>decide_eq_true (ha c hc);rw[ht]at vP;have ef:i9 [none] (aName 0) cQ (L3.f2 inD (aj 0) (fC (.str iF))) (aj 0) [some (.str (S (n:Int)))]=some ((tl (S (n:Int))).map λc=>Dat.bool (iY c)):=tm (x:=S (n:Int)) rfl (bC (by omega)) ec;clear ec;have hs:∃b:Bool,fA (.str (S (n:Int))) [.str "0"]=some (.bool b)/\(b=true->gi (.str (S (n:Int))) (.str "0")=some (.bool false)):=by
  have e0:(("0" : Str))=⟨#[48]⟩:=P7;refine⟨_,by rw[e0];exact j4 _ 48,λhb=>?_⟩;rw[ly]at hb;have hb:=eq_of_beq hb;have hz:n=0:=by
   rcases Nat.eq_zero_or_pos n with z|z
   ·exact z
   ·obtain⟨c,r,e,hc⟩:=Tx.Hy n z;rw[e]at hb;have:c=48:=by simpa using hb
    exact absurd this hc
  subst hz;have:S ((0:Nat):Int)=("0" : Str):=by decide +kernel
  rw[this];rw[pA,decide_eq_true rfl];rfl
 obtain⟨b,s1,s2⟩:=hs;refine bQ ?_;show bG _ _ [~~~.str (S (n:Int))]=_;generalize ((tl (S (n:Int))).map λc=>Dat.bool (iY c))=Sv at *;generalize oD:i9 [none] (aName 0) cQ (L3.f2 inD (aj 0) (fC (.str iF))) (aj 0)=fx at *;generalize ((S (n:Int)).length:Int)=m at *;generalize Dat.str (S (n:Int))=dx at *;rw[aG (au:=[~~~(dx)]) (by
  cases b with
  |true=>
   have s3:=s2 rfl;dsimp![ia,hl,l1,l2,s1,s3]
  |false=>dsimp![ia,hl,l1,l2,s1])]
 change iW (dJ tv (ax (fL (i9 [none] (aName 0) cQ (L3.f2 inD (aj 0) (fC (.str iF))) (aj 0))) aK)) [~~~(dx)]=_
 rw[oD];dsimp![ef,vP]
abbrev BJ (F:List Dat->Option Dat):Prop:=∀n:Nat,n<1000000->F [.str (S (n:Int))]=some (.int (n:Int))
theorem QC(h:n<1000000):xK [.str (S (n:Int))]=some (.int (n:Int)):=by
 obtain⟨h1,h6⟩:=rP h;show(if(S (n:Int)).length<=640 then(PySem.intText? (S (n:Int))).map Dat.int else none)=_;rw[if_pos (by omega),PySem.intText_digits (λc hc=>rQ n c hc) (by
  show tl (S (n:Int))≠[];rw[ly];exact Tx.zN n) (by omega)]
 show some (Dat.int ((NumText.digitsVal (tl (S (n:Int))):Nat):Int))=_;rw[ly,Tx.Le]
variable {Fi:List Dat->Option Dat}
theorem HB(T:TX mg)(R:RX P w K mg)(qW:Dn P w K mg base 1 "is_whole" ["word"] 1 Fi)(hI:Ta Fi)(U:FnAt K mg "read_whole" (top 32) ["word"]):
  ∃F,Dn P w K mg base 2 "read_whole" ["word"] 1 F/\BJ F:=by
 refine⟨_,ek ["word"] U λnd _ _ _ _ _ _ _ hr=>(ao (aH (dM (bM (aL qW hr (af (ae 0) ah)))) (aw bS) aE)
  (aw (aN (GC T.int (af (ae 0) ah))))),?_⟩
 intro n hn;have e1:=hI n hn;have e2:=QC hn;refine bQ ?_;generalize Dat.str (S (n:Int))=dx at *;dsimp![e1,e2]
structure iR where
 st:Addr
 tl:Addr
 nf:Addr
 np:Addr
 fu:Addr
 nr:Addr
 nn:Addr
structure EX (K:Fg) (mg:Str->Option Value) (c:iR):Prop where
 st:Ec K mg "StepError" c.st
 tl:Ec K mg "TooLong" c.tl
 nf:Ec K mg "NoForm" c.nf
 np:Ec K mg "NoPlace" c.np
 fu:Ec K mg "Full" c.fu
 nr:Ec K mg "NoRow" c.nr
 nn:Ec K mg "NoName" c.nn
variable {g2:aD->Bool} {Γ au:aD}
theorem bI{g1:aD->Option Fl}(h:g1 Γ=some (.nx au)):xSeq g1 g2 Γ=g2 au:=by unfold xSeq;rw[h]
variable {g1:aD->Bool}
theorem g7(h:ft (bo Γ)=some true):xIf ft g1 g2 Γ=g1 Γ:=by unfold xIf;rw[h]
theorem Q2(h:ft (bo Γ)=some false):xIf ft g1 g2 Γ=g2 Γ:=by unfold xIf;rw[h]
theorem g6(h:g1 Γ=true):xOr g1 g2 Γ=true:=by unfold xOr;rw[h];rfl
theorem eY(h:g2 Γ=true):xOr g1 g2 Γ=true:=by unfold xOr;rw[h,Bool.or_true]
variable {C:Addr}
theorem fJ{fs:ay->Option (List Dat)}(h:fs (bo Γ)=some ds)(hl:ds.length<=3):xRs C C fs Γ=true:=by
 unfold xRs xRaise;rw[h];simp[hl]
theorem gk{R:List Dat->Addr->Bool}{fs:ay->Option (List Dat)}(h:fs (bo Γ)=some ds)(hl:ds.length=n)(hR:R ds C=true):xE (xFn n R C fs) Γ=true:=by
 unfold xE xFn;rw[h];dsimp only;rw[hR,decide_eq_true hl];rfl
noncomputable def f6 (x:Str):Bool:=decide (1<=x.length/\x.length<=6)&&!((tl x).head? == some 48&&!decide (x=("0" : Str)))&&(tl x).all iY
abbrev T9 (F:List Dat->Option Dat):Prop:=∀x:Str,x.length<=4000->vd x->F [.str x]=some (.bool (f6 x))
theorem Cm(T:TX mg)(R:RX P w K mg)(U:FnAt K mg "is_whole" (top 31) ["word"]):
  ∃F,Dn P w K mg base 1 "is_whole" ["word"] 1 F/\T9 F:=by
 refine⟨_,ek ["word"] U λnd _ _ _ _ _ _ _ hr=>(ao (aH (cE (gG (dM (gh ai (aY T.len (af (ae 0) ah)) (eT R.lm))) (fR (cE (cz (bM (g8 (ae 0) (af ar ah))) (cX (gH hr (ae 0) ar))))))) (aw (aN jC)) aE)
  (aw (aN (vw rfl T.all (af (dj (p9 rfl (eW (N':=["sign"])) (ae 0) (λ_ _ _ _=>(bp 0 (show(["sign"]:List Str).Nodup by decide +kernel))) (λ_ _ _ _=>dY) (λ_ _ _ _=>(yF (ae 0) (ql R.fi))) (cY rfl))) ah))))),?_⟩
 intro x hx ha;have hl:=len_str (x:=x) (by omega);have l1:=dE 1 (x.length:Int);have l2:=dE (x.length:Int) 6;have s1:fA (.str x) [.str "0"]=some (.bool ((tl x).head? == some 48)):=by
  rw[show(("0" : Str))=⟨#[48]⟩from P7];exact j4 _ 48
 have s2:=pA x ("0" : Str);have ec:cL (aName 0) cQ (L3.f2 inD (aj 0) (fC (.str iF))) [none] ((tl x).map λc=>Dat.str ⟨#[c]⟩)=some ((tl x).map λc=>Dat.bool (iY c)):=
  eV (λc:Nat=>Dat.str ⟨#[c]⟩) (λc=>Dat.bool (iY c)) (tl x) λc hc=>⟨[(0,.str ⟨#[c]⟩)],rfl,by
   have:=zj (ha c hc);generalize Dat.str ⟨#[c]⟩=dc at *;generalize Dat.str iF=dl at *;dsimp![this]⟩
 have vP:=zZ iY (tl x);have ef:i9 [none] (aName 0) cQ (L3.f2 inD (aj 0) (fC (.str iF))) (aj 0) [some (.str x)]=some ((tl x).map λc=>Dat.bool (iY c)):=tm (x:=x) rfl (bC (by omega)) ec;clear ec;refine bQ ?_;unfold f6;generalize nF:(tl x).all iY=V4 at *;generalize ((tl x).map λc=>Dat.bool (iY c))=Sv at *;generalize ((tl x).head? == some 48)=b0 at *;generalize decide (x=("0" : Str))=bz at *;generalize oD:i9 [none] (aName 0) cQ (L3.f2 inD (aj 0) (fC (.str iF))) (aj 0)=fx at *;show bG _ _ [~~~.str x]=_;by_cases h1:(1:Int)<=(x.length:Int)
 ·rw[decide_eq_true h1]at l1;by_cases h2:(x.length:Int)<=6
  ·rw[decide_eq_true h2]at l2;rw[decide_eq_true (show 1<=x.length/\x.length<=6 by omega),Bool.true_and];cases hb:(b0&&!bz)with
   |true=>
    obtain⟨q0,qz⟩:=and_eq_true_iff.mp hb;subst q0;rw[qz]at s2;rw[Bool.not_true,Bool.false_and];refine d9 ?_;generalize (x.length:Int)=n at *;generalize Dat.str x=dx at *;dsimp![ia,hl,l1,l2,s1,s2]
   |false=>
    rw[aG (au:=[~~~.str x]) (by
     generalize (x.length:Int)=n at *;generalize Dat.str x=dx at *;cases b0 with
     |false=>dsimp![ia,hl,l1,l2,s1]
     |true=>
      rw[Bool.true_and]at hb;rw[hb]at s2;dsimp![ia,hl,l1,l2,s1,s2])]
    rw[Bool.not_false,Bool.true_and];change iW (dJ tv (ax (fL (i9 [none] (aName 0) cQ (L3.f2 inD (aj 0) (fC (.str iF))) (aj 0))) aK)) [~~~.str x]=_
    rw[oD];generalize Dat.str x=dx at *;dsimp![ef,vP]
  ·rw[decide_eq_false h2]at l2;rw[decide_eq_false (show ¬(1<=x.length/\x.length<=6) by omega),Bool.false_and,Bool.false_and];refine d9 ?_;generalize (x.length:Int)=n at *;generalize Dat.str x=dx at *;dsimp![ia,hl,l1,l2]
 ·rw[decide_eq_false h1]at l1;rw[decide_eq_false (show ¬(1<=x.length/\x.length<=6) by omega),Bool.false_and,Bool.false_and];refine d9 ?_;generalize (x.length:Int)=n at *;generalize Dat.str x=dx at *;dsimp![ia,hl,l1]
abbrev JG (c:iR) (R:List Dat->Addr->Bool):Prop:=∀x:Str,x.length<=4000->vd x->f6 x=false->R [.str x] c.nf=true
theorem ET(T:TX mg)(R:RX P w K mg){c:iR}(EK:EX K mg c)(qW:Dn P w K mg base 1 "is_whole" ["word"] 1 Fi)(hI:T9 Fi)(U:FnAt K mg "read_whole" (top 32) ["word"]):
  ∃R,DnX P w K mg base 2 "read_whole" ["word"] 1 R/\JG c R:=by
 refine⟨_,qdnX ["word"] U λnd _ _ _ _ _ _ _ _ hr hx=>(qr_hd (qr_if (dM (bM (aL qW hr (af (ae 0) ah)))) (qr_one (qr_raise hx EK.nf (af ar ah))) qr_no)),?_⟩;intro x hx ha hw;have e1:=hI x hx ha;rw[hw]at e1;refine(g7 ?_).trans (fJ rfl (by decide));generalize Dat.str x=dx at *;dsimp![e1]
variable {c:Nat}
theorem KO(h:c<128):f7 (.str ⟨#[c]⟩) (.str lets)=some (.bool (!ltB c)):=by
 have:=Ef h;unfold inD at this;unfold f7;obtain⟨k,e1,e2⟩:=map_eq_some_iff.mp this;rw[e1];injection e2 with e2;rw[map_some,e2]
theorem KP(h:c<128):f7 (.str ⟨#[c]⟩) (.str iF)=some (.bool (!iY c)):=by
 have:=zj h;unfold inD at this;unfold f7;obtain⟨k,e1,e2⟩:=map_eq_some_iff.mp this;rw[e1];injection e2 with e2;rw[map_some,e2]
theorem yg:∀ys:List Str,(∀y∈ys,PyData.strOk y=true)->PyData.canLayAll0 (PySem.W.kqdPs (ys.map .str))=true/\PyData.depthAll (PySem.W.kqdPs (ys.map .str))=0
 |[],_=>⟨by simp[PySem.W.kqdPs,PyData.canLayAll0],by simp[PySem.W.kqdPs,PyData.depthAll]⟩
 |y::ys,h=>by
  obtain⟨h1,h2⟩:=yg ys λz hz=>h z (mem_cons_of_mem _ hz);have h3:=h y mem_cons_self;rw[map_cons];refine⟨?_,?_⟩
  ·simp only[PySem.W.kqdPs,PyData.canLayAll0,PySem.W.kqdP,PyData.canLay0,h1,h3,Bool.and_self]
  ·simp only[PySem.W.kqdPs,PyData.depthAll,PySem.W.kqdP,PyData.depth,h2,Nat.max_self]
theorem AE(ys:List Str)(h:∀y∈ys,PyData.strOk y=true):SeqAt.shaped (PySem.W.kqdP (.list (ys.map .str)))=true:=by
 obtain⟨h1,h2⟩:=yg ys h;unfold SeqAt.shaped;simp only[PySem.W.kqdP,PyData.canLay0,PyData.depth,h1,h2];rfl
theorem vO(ys:List Str)(h:∀y∈ys,PyData.strOk y=true):jN (.list (ys.map .str)) (.list [])=some (.bool ys.isEmpty):=by
 have h2:=AE [] (λy hy=>by cases hy);have h2:SeqAt.shaped (PySem.W.kqdP (.list []))=true:=h2;unfold jN uI;rw[if_pos ⟨AE ys h,h2⟩];cases ys with
 |nil=>simp[PySem.W.kqdP,PySem.W.kqdPs,PyData.eqv,PyData.eqvAll]
 |cons y ys=>simp[PySem.W.kqdP,PySem.W.kqdPs,PyData.eqv,PyData.eqvAll]
theorem N6(h:c<128):PyData.strOk ⟨#[c]⟩=true:=by
 show(#[c]).all (· < 1114112)=true;simp;omega
theorem tP(ha:vd x)(p:Nat->Bool):jN (.list (((tl x).filter λc=>!p c).map λc=>Dat.str ⟨#[c]⟩)) (.list [])=some (.bool ((tl x).all p)):=by
 have:=vO (((tl x).filter λc=>!p c).map λc=>(⟨#[c]⟩:Str)) (λy hy=>by
  obtain⟨c,hc,rfl⟩:=mem_map.mp hy;exact N6 (ha c (mem_filter.mp hc).1))
 rw[map_map]at this;rw[show((tl x).all p)=(((tl x).filter λc=>!p c).map λc=>(⟨#[c]⟩:Str)).isEmpty by
  rw[List.isEmpty_map];induction tl x with
  |nil=>rfl
  |cons a l ih=>
   rw[all_cons,List.filter_cons];cases hp:p a with
   |true=>rw[Bool.true_and,ih];rfl
   |false=>rfl]
 exact this
abbrev JO (F:List Dat->Option Dat):Prop:=∀x:Str,x.length<=4000->vd x->F [.str x]=some (.bool (gu x))
theorem Co(T:TX mg)(R:RX P w K mg)(U:FnAt K mg "_law_good_name" (top 56) ["word"]):
  ∃F,Dn P w K mg base 1 "_law_good_name" ["word"] 1 F/\JO F:=by
 refine⟨_,ek ["word","strange"] U λnd _ _ _ _ _ _ _ hr=>(ao (ua 1 nd rfl (eW (N':=["sign"])) (qpif_str (ae 0)) (λ_ _ _ _=>(bp 0 (show(["sign"]:List Str).Nodup by decide +kernel))) (λ_ _ _ _=>(gK (iA (ae 0) ar))) (λ_ _ _ _=>(ae 0)) (cY rfl))
  (aw (aN (rE (vt hr (ae 1) (cq ah)) (rE (qpf_leLe ai (aY T.len (af (ae 0) ah)) ai) (rD (Ds (ae 0) (cq (af ar (af ar (af ar (af ar ah)))))))))))),?_⟩
 intro x hx ha;have z0:0<=sizeLine:=zero_le _;have z4:4<=sizeLine:=sz (by decide);have hl:=len_str (x:=x) hx;have l1:=dE 1 (x.length:Int);have l2:=dE (x.length:Int) 8;have ec:cL (aName 0) (aZ (L3.f2 f7 (aj 0) (fC (.str lets)))) (aj 0) [none] ((tl x).map λc=>Dat.str ⟨#[c]⟩)=some (((tl x).filter λc=>!ltB c).map λc=>Dat.str ⟨#[c]⟩):=
  gQ (λc:Nat=>Dat.str ⟨#[c]⟩) (λc:Nat=>Dat.str ⟨#[c]⟩) (λc=>!ltB c) (tl x) λc hc=>⟨[(0,.str ⟨#[c]⟩)],rfl,by
   have:=KO (ha c hc);generalize (!ltB c)=b at *;generalize Dat.str ⟨#[c]⟩=dc at *;generalize Dat.str lets=dl at *;dsimp![this],λ_=>rfl⟩
 have ef:jb [none] (aName 0) (aZ (L3.f2 f7 (aj 0) (fC (.str lets)))) (aj 0) (iSg (aj 0)) (dD [~~~.str x,none])=some (((tl x).filter λc=>!ltB c).map λc=>Dat.str ⟨#[c]⟩):=by
  unfold jb;rw[show iSg (aj 0) (dD [~~~.str x,none])=some ((tl x).map λc=>Dat.str ⟨#[c]⟩)from rfl,Option.bind_some,if_pos (by rw[length_map,bH];exact bC hx)];exact ec
 have q0:=tP ha ltB;have n1:f7 (.str x) (.list [.str "given",.str "so",.str "from",.str "ask"])=some (.bool (!bw.contains x)):=k7 x bw;refine bQ ?_;show bG _ _ [~~~.str x,none]=_;generalize (((tl x).filter λc=>!ltB c).map λc=>Dat.str ⟨#[c]⟩)=ds at *;rw[aG (au:=[~~~.str x,~~~.list ds]) (by
  show tX 1 (jb [none] (aName 0) (aZ (L3.f2 f7 (aj 0) (fC (.str lets)))) (aj 0) (iSg (aj 0))) _=_;unfold tX;rw[ef];rfl)]
 clear ec ef;unfold gu;have hd:decide (1<=x.length/\x.length<=8)=(decide ((1:Int)<=(x.length:Int))&&decide ((x.length:Int)<=8)):=by
  rw[<- decide_and];exact decide_eq_decide.mpr (by omega)
 rw[hd];clear hd;generalize (tl x).all ltB=b0 at *;generalize decide ((1:Int)<=(x.length:Int))=b1 at *;generalize decide ((x.length:Int)<=8)=b2 at *;generalize bw.contains x=b3 at *;generalize (x.length:Int)=n at *;generalize Dat.list ds=dl at *;generalize Dat.str x=dx at *;cases b0<;>cases b1<;>cases b2<;>cases b3<;>(dsimp![ia,q0,hl,l1,l2,n1,z0,z4]<;>rfl)
abbrev Tb (F:List Dat->Option Dat):Prop:=∀x:Str,x.length<=4000->vd x->F [.str x]=some (.bool (f6 x))
theorem Aj(T:TX mg)(R:RX P w K mg)(U:FnAt K mg "_law_good_whole" (top 57) ["word"]):
  ∃F,Dn P w K mg base 1 "_law_good_whole" ["word"] 1 F/\Tb F:=by
 refine⟨_,ek ["word","strange"] U λnd _ _ _ _ _ _ _ hr=>(ao (ua 1 nd rfl (eW (N':=["sign"])) (qpif_str (ae 0)) (λ_ _ _ _=>(bp 0 (show(["sign"]:List Str).Nodup by decide +kernel))) (λ_ _ _ _=>(gK (iA (ae 0) ar))) (λ_ _ _ _=>(ae 0)) (cY rfl))
  (aw (aN (rE (vt hr (ae 1) (cq ah)) (rE (qpf_leLe ai (aY T.len (af (ae 0) ah)) ai) (rD (Dq (yG hr (ae 0) ar) (rD (Dt hr (iT (ae 0) ai) ar))))))))),?_⟩
 intro x hx ha;have z0:0<=sizeLine:=zero_le _;have z4:4<=sizeLine:=sz (by decide);have hl:=len_str (x:=x) hx;have l1:=dE 1 (x.length:Int);have l2:=dE (x.length:Int) 6;have ec:cL (aName 0) (aZ (L3.f2 f7 (aj 0) (fC (.str iF)))) (aj 0) [none] ((tl x).map λc=>Dat.str ⟨#[c]⟩)=some (((tl x).filter λc=>!iY c).map λc=>Dat.str ⟨#[c]⟩):=
  gQ (λc:Nat=>Dat.str ⟨#[c]⟩) (λc:Nat=>Dat.str ⟨#[c]⟩) (λc=>!iY c) (tl x) λc hc=>⟨[(0,.str ⟨#[c]⟩)],rfl,by
   have:=KP (ha c hc);generalize (!iY c)=b at *;generalize Dat.str ⟨#[c]⟩=dc at *;generalize Dat.str iF=dl at *;dsimp![this],λ_=>rfl⟩
 have ef:jb [none] (aName 0) (aZ (L3.f2 f7 (aj 0) (fC (.str iF)))) (aj 0) (iSg (aj 0)) (dD [~~~.str x,none])=some (((tl x).filter λc=>!iY c).map λc=>Dat.str ⟨#[c]⟩):=by
  unfold jb;rw[show iSg (aj 0) (dD [~~~.str x,none])=some ((tl x).map λc=>Dat.str ⟨#[c]⟩)from rfl,Option.bind_some,if_pos (by rw[length_map,bH];exact bC hx)];exact ec
 have q0:=tP ha iY;have n1:=iI x ("0" : Str);have n2:x.length≠0->∃dh,qD (.str x) (.int 0)=some dh/\gi dh (.str "0")=some (.bool (!((tl x).head? == some 48))):=λi8=>by
  cases e:tl x with
  |nil=>rw[<- bH,e]at i8;exact absurd rfl i8
  |cons h r=>
   refine⟨.str ⟨#[h]⟩,?_,?_⟩
   ·unfold qD;have e2:x.cps[(0:Int).toNat]?=some h:=by
     rw[<- Array.getElem?_toList];show(tl x)[0]?=some h;rw[e];rfl
    show(if(0:Int)<=0/\(0:Int)<1000 then _ else _)=_;rw[if_pos (by decide),e2];rfl
   ·rw[pA];congr 2
    show(!decide ((⟨#[h]⟩:Str)=("0" : Str)))=!(some h==some 48);congr 1
    rw[show("0" : Str)=⟨#[48]⟩from P7];by_cases hh:h=48
    ·subst hh;rfl
    ·rw[decide_eq_false (λz=>hh (by injection z with z;injection z with z;injection z)),show(some h==some 48)=false by simpa using hh]
 refine bQ ?_;show bG _ _ [~~~.str x,none]=_;generalize (((tl x).filter λc=>!iY c).map λc=>Dat.str ⟨#[c]⟩)=ds at *;rw[aG (au:=[~~~.str x,~~~.list ds]) (by
  show tX 1 (jb [none] (aName 0) (aZ (L3.f2 f7 (aj 0) (fC (.str iF)))) (aj 0) (iSg (aj 0))) _=_;unfold tX;rw[ef];rfl)]
 clear ec ef;unfold f6;have hd:decide (1<=x.length/\x.length<=6)=(decide ((1:Int)<=(x.length:Int))&&decide ((x.length:Int)<=6)):=by
  rw[<- decide_and];exact decide_eq_decide.mpr (by omega)
 rw[hd];clear hd;by_cases h1:(1:Int)<=(x.length:Int)
 ·rw[decide_eq_true h1]at l1 ⊢;obtain⟨dh,m2,n3⟩:=n2 (by omega);clear n2;generalize ((tl x).head? == some 48)=b4 at *;generalize (tl x).all iY=b0 at *;generalize decide ((x.length:Int)<=6)=b2 at *;generalize decide (x=("0" : Str))=b3 at *;generalize (x.length:Int)=n at *;generalize Dat.list ds=dl at *;generalize Dat.str x=dx at *;cases b0<;>cases b2<;>cases b3<;>cases b4<;>(dsimp![ia,q0,hl,l1,l2,n1,m2,n3,z0]<;>rfl)
 ·rw[decide_eq_false h1]at l1 ⊢;clear n2;rw[Bool.false_and,Bool.false_and,Bool.false_and];generalize (tl x).all iY=b0 at *;generalize (x.length:Int)=n at *;generalize Dat.list ds=dl at *;generalize Dat.str x=dx at *;cases b0<;>(dsimp![ia,q0,hl,l1,z0]<;>rfl)
noncomputable def QY:aD->Nat
 |_::some (.ag (.int b))::_=>b.natAbs+1
 |_=>0
noncomputable abbrev Sw:aD->Option Fl:=bG (cW 2 (f2 iE (aj 0) (aj 1))) (bG (cW 0 (aj 1)) (cW 1 (aj 2)))
theorem BE:∀(n:Nat) (a b:Int) (r:Option Slot),0<=a->0<=b->b.natAbs<n->∃r',iL P2 Sw n [~~~.int a,~~~.int b,r]=some (.nx [~~~.int (gcd a b),~~~.int 0,r'])
 |0,_,_,_,_,_,h=>by omega
 |n+1,a,b,r,ha,hb,h=>by
  by_cases e:b=0
  ·subst e;refine⟨r,?_⟩;rw[xX (by rw[uO _ none];rfl)];congr
   rw[Int.gcd_zero];omega
  ·have NW:0<=a.fmod b:=Int.fmod_nonneg_of_pos a (by omega);have zu:a.fmod b<b:=Int.fmod_lt_of_pos a (by omega);have hbody:Sw [~~~.int a,~~~.int b,r]=some (.nx [~~~.int b,~~~.int (a.fmod b),~~~.int (a.fmod b)]):=by
    refine(aG (cD (d:=.int (a.fmod b)) (bg e))).trans ?_;refine(aG (cD (d:=.int b) rfl)).trans ?_;exact cD (d:=.int (a.fmod b)) rfl
   obtain⟨r',q⟩:=BE n b (a.fmod b) _ hb NW (by omega);refine⟨r',?_⟩;rw[xW (by rw[uO _ none,decide_eq_false e];rfl) hbody,q,Fr.zF a b (by omega)]
theorem V1(T:TX mg)(U:FnAt K mg "common_divisor" (top 12) ["a","b"]):∃F,Dn P w K mg base 1 "common_divisor" ["a","b"] 2 F/\∀a b:Int,0<=a->0<=b->F [.int a,.int b]=some (.int (gcd a b)):=by
 refine⟨_,ek ["a","b","rest"] U λnd _ _ _ _ _ _ _ hr=>(ao (u0 QY PassesOwn.never (gH hr (ae 1) ai) (ao (az 2 nd (bh (ae 0) (ae 1)))
  (ao (az 0 nd (ae 1))
  (aw (az 1 nd (ae 2))))))
  (aw (aN (ae 0)))),?_⟩
 intro a b ha hb;obtain⟨r',q⟩:=BE (b.natAbs+1) a b none ha hb (by omega);refine bQ ?_;refine(aG q).trans ?_;exact gj rfl
abbrev Tw (p:Int):Prop:=p.natAbs<10^600
abbrev JK (F:List Dat->Option Dat):Prop:=∀n d:Int,0<d->Tw d->F [.int n,.int d]=some (aW (eP n d))
variable {Fc:List Dat->Option Dat}
theorem Ll(T:TX mg)(vc:Dn P w K mg base 1 "common_divisor" ["a","b"] 2 Fc)(hc:∀a b:Int,0<=a->0<=b->Fc [.int a,.int b]=some (.int (gcd a b)))(U:FnAt K mg "make" (top 13) ["n","d"]):
  ∃F,Dn P w K mg base 2 "make" ["n","d"] 2 F/\JK F:=by
 refine⟨_,ek ["n","d","divisor"] U λnd _ _ _ _ _ _ _ hr=>(ao (az 2 nd (aL vc hr (af (vx T.abs (af (ae 0) ah)) (af (vx T.abs (af (ae 1) ah)) ah (hs:=bf)) (hs:=bf))))
  (ao (aH (rA (ae 1) ai) (aw (az 2 nd (mK (ae 2)))) aE)
  (aw (aN (dZ (k:=0) (af (ck (ae 0) (ae 2)) (af (ck (ae 1) (ae 2)) ah (hs:=bZ)) (hs:=bZ))))))),?_⟩
 intro n d h hb;have e1:=hc (n.natAbs:Int) (d.natAbs:Int) (by omega) (by omega);have g0:gcd (n.natAbs:Int) (d.natAbs:Int)=gcd n d:=by simp[gcd]
 rw[g0]at e1;have c:¬d<0:=by omega
 have gp:=Fr.mS (n:=n) (d:=d) (by omega);have gl:gcd n d<=d.natAbs:=Nat.le_of_dvd (by omega) (Int.ofNat_dvd_left.mp (gcd_dvd_right n d));have lg:(gcd n d:Int).natAbs.log2<9000:=lt_trans (log2_small (k:=2000) (by decide) (by
  rw[natAbs_natCast];exact lt_of_le_of_lt gl (lt_trans hb (by decide)))) (by decide)
 have q1:=cF (a:=n) (b:=(gcd n d:Int)) (by omega) lg;have q2:=cF (a:=d) (b:=(gcd n d:Int)) (by omega) lg;have en:n.fdiv (gcd n d:Int)=Fr.num n d:=by unfold Fr.num Fr.dv;rw[if_neg c]
 have ed:d.fdiv (gcd n d:Int)=Fr.den n d:=by unfold Fr.den Fr.dv;rw[if_neg c]
 rw[en]at q1;rw[ed]at q2;have z2:2<=sizeLine:=sz (by decide);have a1:=A3 n;have a2:=A3 d;generalize (gcd n d:Int)=g at *;generalize (n.natAbs:Int)=na at *;generalize (d.natAbs:Int)=da at *;refine bQ ?_;dsimp![a1,a2,e1,i6,eq_false c,q1,q2,z2,eP]
abbrev SF (x:Int×Int):Prop:=0<x.2/\x.1.natAbs<10^8/\x.2.natAbs<10^8
abbrev Lg (x:Int×Int):Prop:=0<x.2/\x.2.natAbs<10^590
theorem H0(a:Int){b:Int}(h:b.natAbs<10^8):pB (.int a) (.int b)=some (.int (a*b)):=mulR a (by
 have e:(10:Nat)^8=100000000:=by decide
 omega) (by
 have e:(10:Nat)^8=100000000:=by decide
 omega)
theorem GZ{a:Int}(b:Int)(h:a.natAbs<10^8):pB (.int a) (.int b)=some (.int (a*b)):=mulL b (by
 have e:(10:Nat)^8=100000000:=by decide
 omega) (by
 have e:(10:Nat)^8=100000000:=by decide
 omega)
theorem LS{a b:Int}(ha:a.natAbs<10^590)(hb:b.natAbs<10^8):Tw (a*b):=by
 unfold Tw;rw[natAbs_mul];exact lt_of_lt_of_le (Nat.mul_lt_mul'' ha hb) (by decide)
abbrev SU (F:List Dat->Option Dat):Prop:=∀x y:Int×Int,Lg x->SF y->F [aW x,aW y]=some (aW (eP (x.1*y.2+y.1*x.2) (x.2*y.2)))
abbrev BM (F:List Dat->Option Dat):Prop:=∀y:Int×Int,Lg y->F [.tuple [.int 0,.int 1],aW y]=some (aW (eP (-y.1) y.2))
variable {Fm:List Dat->Option Dat}
theorem Lj(T:TX mg)(vb:Dn P w K mg base 2 "make" ["n","d"] 2 Fm)(hM:JK Fm)(U:FnAt K mg "plus" (top 14) ["a","b"]):
  ∃F,Dn P w K mg base 3 "plus" ["a","b"] 2 F/\SU F:=by
 refine⟨_,ek ["a","b"] U λnd _ _ _ _ _ _ _ hr=>(aw (aN (aL vb hr (af (fm (eQ (aB (ae 0) ai) (aB (ae 1) ai)) (eQ (aB (ae 1) ai) (aB (ae 0) ai))) (af (eQ (aB (ae 0) ai) (aB (ae 1) ai)) ah (hs:=bZ)) (hs:=bZ))))),?_⟩;rintro⟨p,q⟩ ⟨r,s⟩ ⟨h1,h2⟩ ⟨k1,k2,k3⟩;dsimp only at *;have e:=hM (p*s+r*q) (q*s) (mul_pos h1 k1) (LS h2 k3);have m1:=H0 p k3;have m2:=GZ q k2;have m3:=H0 q k3;refine bQ ?_;simp![Fv,Fu,m1,m2,m3,gz,e]
theorem HD(T:TX mg)(vb:Dn P w K mg base 2 "make" ["n","d"] 2 Fm)(hM:JK Fm)(U:FnAt K mg "minus" (top 15) ["a","b"]):
  ∃F,Dn P w K mg base 3 "minus" ["a","b"] 2 F/\BM F:=by
 refine⟨_,ek ["a","b"] U λnd _ _ _ _ _ _ _ hr=>(aw (aN (aL vb hr (af (ow (eQ (aB (ae 0) ai) (aB (ae 1) ai)) (eQ (aB (ae 1) ai) (aB (ae 0) ai))) (af (eQ (aB (ae 0) ai) (aB (ae 1) ai)) ah (hs:=bZ)) (hs:=bZ))))),?_⟩;rintro⟨r,s⟩ ⟨k1,k2⟩;dsimp only at *;have e:=hM (0*s-r*1) (1*s) (by omega) (by rw[Int.one_mul];exact lt_trans k2 (by decide));have m1:=GZ (a:=0) s (by decide);have m2:=H0 r (b:=1) (by decide);have m3:=GZ (a:=1) s (by decide);rw[show eP (-r) s=eP (0*s-r*1) (1*s) by rw[show(0:Int)*s-r*1=-r by omega,Int.one_mul]];refine bQ ?_;simp![Fv,Fu,m1,m2,m3,mV,e]
variable {x:Int×Int}
theorem Ki(h0:0<x.2)(hc:gcd x.1 x.2=1):eP x.1 x.2=x:=by
 unfold eP;have c:¬x.2<0:=by omega
 have e1:Fr.num x.1 x.2=x.1:=by unfold Fr.num Fr.dv;rw[if_neg c,hc];exact Int.fdiv_one _
 have e2:Fr.den x.1 x.2=x.2:=by unfold Fr.den Fr.dv;rw[if_neg c,hc];exact Int.fdiv_one _
 rw[e1,e2]
theorem Vv(h:Pd x):SF x:=⟨h.pos,lt_of_lt_of_le h.ln (by decide),lt_of_lt_of_le h.ld (by decide)⟩
noncomputable abbrev kB (x:Int×Int):Int×Int:=(-x.1,x.2)
theorem um(h:Pd x):Pd (kB x):=⟨h.pos,by show gcd (-x.1) x.2=1;rw[Int.neg_gcd];exact h.zS,by show(-x.1).natAbs<_;rw[Int.natAbs_neg];exact h.ln,h.ld⟩
variable {F:List Dat->Option Dat}
theorem IS(hF:BM F)(h0:0<x.2)(hc:gcd x.1 x.2=1)(hl:x.2.natAbs<10^590):F [.tuple [.int 0,.int 1],aW x]=some (aW (kB x)):=by
 rw[hF x ⟨h0,hl⟩];exact congrArg (λy=>some (aW y)) (Ki (x:=kB x) h0 (by show gcd (-x.1) x.2=1;rw[Int.neg_gcd];exact hc))
theorem IT(hF:BM F)(h:Pd x):F [.tuple [.int 0,.int 1],aW x]=some (aW (kB x)):=IS hF h.pos h.zS (lt_of_lt_of_le h.ld (by decide))
variable {x:Str}
theorem kZ(h:c<256)(hl:x.length<=4000):∃ys:List Str,ys.map tl=Tx.bB c (tl x)/\eO (.str x) [.str ⟨#[c]⟩]=some (ys.map .str):=by
 refine⟨Txt.split x ⟨#[c]⟩,Tx.lG h x,?_⟩;have hlen:(Txt.split x ⟨#[c]⟩).length<=4001:=by
  have e:=congrArg List.length (Tx.lG h x);rw[length_map]at e;rw[e];have:∀l:List Nat,(Tx.bB c l).length<=l.length+1:=by
   intro l;induction l with
   |nil=>exact le_refl _
   |cons a l ih=>
    unfold Tx.bB;split
    ·simp;exact ih
    ·split
     ·simp
     ·rename_i h t e;rw[e]at ih;simp at ih ⊢;omega
  have:=this (tl x);rw[bH]at this;omega
 have hz:(4001:Nat)<=sizeLine:=by rw[sizeLine_eq];decide
 exact if_pos ⟨rfl,sz hl,le_trans hlen hz⟩
theorem dO{ls:List Str}(h:ys.map tl=ls.map tl):ys=ls:=by
 have:∀(a b:List Str),a.map tl=b.map tl->a=b:=by
  intro a;induction a with
  |nil=>intro b h;cases b with|nil=>rfl|cons _ _=>cases h
  |cons x a ih=>
   intro b h;cases b with
   |nil=>cases h
   |cons y b=>
    rw[map_cons,map_cons]at h;injection h with h1 h2;rw[d6 h1,ih b h2]
 exact this _ _ h
theorem HZ(n c:Nat)(h:c<48\/57<c):c∉tl (S (n:Int)):=λz=>by have:=rQ n c z;omega
structure Nw where
 p:Nat
 q:Nat
 sl:Bool
structure Nw.Ok (w:Nw):Prop where
 hp:w.p<1000000
 h1:1<=w.q
 hq:w.q<1000000
 hs:w.sl=false->w.q=1
noncomputable def cg (w:Nw):Str:=if w.sl=true then S (w.p:Int)++Str.ofString "/"++S (w.q:Int)else S (w.p:Int)
noncomputable abbrev gX (w:Nw):Int×Int:=eP (w.p:Int) (w.q:Int)
theorem DU{w:Nw}(h:w.Ok):Pd (gX w):=Qn (by have:=h.h1;omega) (by have:=h.hp;rw[natAbs_natCast];exact this) (by have:=h.hq;rw[natAbs_natCast];exact this)
theorem mP{w:Nw}(h:w.Ok):(cg w).length<=13:=by
 have l1:=rP h.hp;have l2:=rP h.hq;have l3:(Str.ofString "/").length=1:=by rw[lY];rfl
 unfold cg;split
 ·rw[jw,jw,l3];omega
 ·omega
abbrev Px (F:List Dat->Option Dat):Prop:=∀w:Nw,w.Ok->F [.str (cg w)]=some (aW (gX w))
variable {Fw:List Dat->Option Dat}
theorem EV(T:TX mg)(R:RX P w K mg)(fI:Dn P w K mg base 2 "read_whole" ["word"] 1 Fw)(hW:BJ Fw)(vb:Dn P w K mg base 2 "make" ["n","d"] 2 Fm)(hM:JK Fm)(U:FnAt K mg "read_number" (top 33) ["word"]):
  ∃F,Dn P w K mg base 3 "read_number" ["word"] 1 F/\Px F:=by
 refine⟨_,ek ["word","pieces","n","d"] U λnd _ _ _ _ _ _ _ hr=>(ao (az 1 nd (gM (ae 0) (af ar ah)))
  (ao (aH (dP (aY T.len (af (ae 1) ah)) ai) (aw bS) aE)
  (ao (az 2 nd (aL fI hr (af (aB (ae 1) ai) ah (hs:=aJ))))
  (ao (az 3 nd (qk (aX hr (aY T.len (af (ae 1) ah)) ai) (aL fI hr (af (aB (ae 1) ai) ah (hs:=aJ))) ai))
  (ao (aH (aX hr (ae 3) ai) (aw bS) aE)
  (aw (aN (aL vb hr (af (ae 2) (af (ae 3) ah)))))))))),?_⟩
 intro x hx;have hl:=mP hx;obtain⟨p,q,sl⟩:=x;have hp:p<1000000:=hx.hp;have hq1:1<=q:=hx.h1;have hq:q<1000000:=hx.hq;have wL:sl=false->q=1:=hx.hs;obtain⟨ys,e1,e0⟩:=kZ (x:=cg ⟨p,q,sl⟩) (c:=47) (by decide) (by omega);have eM:=hM (p:Int) (q:Int) (by omega) (by unfold Tw;rw[natAbs_natCast];exact lt_of_lt_of_le hq (by decide));show _=some (aW (eP (p:Int) (q:Int)));generalize eP (p:Int) (q:Int)=v at *;have wp:=hW p hp;have wq:=hW q hq;have e2:eO (.str (cg ⟨p,q,sl⟩)) [.str "/"]=some (ys.map .str):=by rw[show("/" : Str)=⟨#[47]⟩from vQ];exact e0
 clear e0;refine bQ ?_;show bG _ _ [~~~.str (cg ⟨p,q,sl⟩),none,none,none]=_;cases sl with
 |false=>
  have h1:=wL rfl;have hd:cg ⟨p,q,false⟩=S (p:Int):=rfl;have ey:ys=[S (p:Int)]:=dO (by rw[e1,hd,Tx.fB 47 _ (HZ p 47 (by omega))];rfl);subst ey;have lp:dC [.list [.str (S (p:Int))]]=some (.int 1):=rfl;have pO:bu (.list [.str (S (p:Int))]) (.int 0)=some (.str (S (p:Int))):=rfl;have g2:=cK 1 2;have q2:=bV 1 2;have q3:=bV 1 0;have Wi:(q:Int)=1:=by omega
  rw[Wi]at eM;rw[map_cons,map_nil]at e2;generalize Dat.str (cg ⟨p,q,false⟩)=dw at *;generalize Dat.str (S (p:Int))=ds at *;rw[decide_eq_false (by decide)]at g2 q2 q3;dsimp![eD,e2,lp,pO,g2,q2,q3,wp,eM]
 |true=>
  have hd:cg ⟨p,q,true⟩=S (p:Int)++Str.ofString "/"++S (q:Int):=rfl;have ey:ys=[S (p:Int),S (q:Int)]:=dO (by
   rw[e1,hd,aR,aR,show tl (Str.ofString "/")=[47] by rw[vQ],append_assoc];show Tx.bB 47 (tl (S (p:Int))++47::tl (S (q:Int)))=_;rw[Tx.gF 47 _ _ (HZ p 47 (by omega)),Tx.fB 47 _ (HZ q 47 (by omega))];rfl)
  subst ey;have lp:dC [.list [.str (S (p:Int)),.str (S (q:Int))]]=some (.int 2):=rfl;have pO:bu (.list [.str (S (p:Int)),.str (S (q:Int))]) (.int 0)=some (.str (S (p:Int))):=rfl;have oB:bu (.list [.str (S (p:Int)),.str (S (q:Int))]) (.int 1)=some (.str (S (q:Int))):=rfl;have g2:=cK 2 2;have q2:=bV 2 2;have q3:=bV (q:Int) 0;rw[decide_eq_false (by decide)]at g2;rw[decide_eq_true (by decide)]at q2;rw[decide_eq_false (show ¬(q:Int)=0 by omega)]at q3;rw[map_cons,map_cons,map_nil]at e2;generalize Dat.str (cg ⟨p,q,true⟩)=dw at *;generalize Dat.str (S (p:Int))=ds at *;generalize Dat.str (S (q:Int))=dq at *;generalize (q:Int)=qi at *;dsimp![eD,e2,lp,pO,oB,g2,q2,q3,wp,wq,eM]
theorem IP(h:Nm x)(hb:x∉bw):gu x=true:=by
 unfold gu;have h1:1<=x.length:=by
  rw[<- bH];cases e:tl x with
  |nil=>exact absurd e h.ne
  |cons a r=>exact succ_pos _
 have nF:(tl x).all ltB=true:=all_eq_true.mpr λc hc=>decide_eq_true (h.lw c hc);rw[decide_eq_true ⟨h1,h.len⟩,nF];cases hc:bw.contains x with
 |true=>exact absurd (contains_iff_mem.mp hc) hb
 |false=>rfl
theorem uk(hc:c∈tl x)(hl:ltB c=false):gu x=false:=by
 unfold gu;have:(tl x).all ltB=false:=by
  rw[eq_false_iff];intro z;rw[all_eq_true.mp z c hc]at hl;cases hl
 rw[this,Bool.and_false]
theorem k6{w:Nw}(h:w.Ok):∀c∈tl (cg w),47<=c/\c<=57:=by
 intro c hc;unfold cg at hc;split at hc
 ·rw[aR,aR]at hc;rcases mem_append.mp hc with z|z
  ·rcases mem_append.mp z with z|z
   ·have:=rQ w.p c z;omega
   ·rw[vQ]at z;have:c∈[47]:=z;simp at this;omega
  ·have:=rQ w.q c z;omega
 ·have:=rQ w.p c hc;omega
theorem ug(w:Nw):∃c r,tl (cg w)=c::r/\48<=c/\c<=57:=by
 have hn:=Tx.zN w.p;cases e:Tx.dig w.p with
 |nil=>exact absurd e hn
 |cons c r=>
  have hc:=Tx.Bx w.p c (by rw[e];exact mem_cons_self);unfold cg;split
  ·refine⟨c,r++(tl (Str.ofString "/")++tl (S (w.q:Int))),?_,hc⟩;rw[aR,aR,ly,e,append_assoc];rfl
  ·exact⟨c,r,by rw[ly,e],hc⟩
theorem xF(h:Nm x)(hc:c<97):c∉tl x:=λz=>by have:=(h.lw c z).1;omega
inductive Tr where
 |nm (n:Str)
 |nu (w:Nw)
 |nn (w:Nw) (n:Str)
noncomputable def cM:Tr->Str
 | .nm n=>n
 | .nu w=>cg w
 | .nn w n=>cg w++cS++n
noncomputable def w6:Tr->Option Str
 | .nm n=>some n
 | .nu _=>none
 | .nn _ n=>some n
noncomputable def fq:Tr->Int×Int
 | .nm _=>(1,1)
 | .nu w=>gX w
 | .nn w _=>gX w
def mv (n:Str):Prop:=Nm n/\n∉bw
noncomputable def fQ:Tr->Prop
 | .nm n=>mv n
 | .nu w=>w.Ok
 | .nn w n=>w.Ok/\mv n
noncomputable abbrev eU:Option Str->Dat
 |some x=>.str x
 |none=>.none
abbrev SH (F:List Dat->Option Dat):Prop:=∀t:Tr,fQ t->F [.str (cM t)]=some (.tuple [eU (w6 t),aW (fq t)])
variable {Fn:List Dat->Option Dat}
theorem Lf(T:TX mg)(R:RX P w K mg)(fT:Dn P w K mg base 3 "is_name" ["word"] 1 Fi)(hI:JN Fi)(kK:Dn P w K mg base 3 "read_number" ["word"] 1 Fn)(hN:Px Fn)(U:FnAt K mg "read_term" (top 34) ["word"]):
  ∃F,Dn P w K mg base 4 "read_term" ["word"] 1 F/\SH F:=by
 refine⟨_,ek ["word","pieces"] U λnd _ _ _ _ _ _ _ hr=>(ao (aH (bM (aL fT hr (af (ae 0) ah))) (aw (aN (dZ (k:=0) (af (ae 0) (af (il R.on.choose_spec.mg R.on.choose_spec.tup) ah))))) aE)
  (ao (az 1 nd (gM (ae 0) (af ar ah)))
  (ao (aH (aX hr (aY T.len (af (ae 1) ah)) ai) (aw (aN (dZ (k:=0) (af mJ (af (aL kK hr (af (ae 0) ah)) ah (hs:=bf)))))) aE)
  (ao (aH (cE (gG (dP (aY T.len (af (ae 1) ah)) ai) (fR (dM (bM (aL fT hr (af (aB (ae 1) ai) ah (hs:=aJ)))))))) (aw bS) aE)
  (aw (aN (dZ (k:=0) (af (aB (ae 1) ai) (af (aL kK hr (af (aB (ae 1) ai) ah (hs:=aJ))) ah (hs:=bf)) (hs:=aJ))))))))),?_⟩
 have z2:2<=sizeLine:=sz (by decide);have iP:∀n:Str,mv n->Fi [.str n]=some (.bool true):=λn hn=>by
  have oC:=hI n (le_trans hn.1.len (by decide)) (λc hc=>by have:=(hn.1.lw c hc).2;omega);rw[IP hn.1 hn.2]at oC;exact oC
 intro t ht;cases t with
 |nm n=>
  have oC:=iP n ht;show gq _ _ [.str n]=some (.tuple [.str n,aW (1,1)]);refine bQ (d9 ?_);generalize Dat.str n=dn at *;dsimp![oC,z2]
 |nn w n=>
  have ht:w.Ok/\mv n:=ht;have oC:=iP n ht.2;have eN:=hN w ht.1;have Wt:=mP ht.1;have ha:=k6 ht.1;have Bd:=ht.2.1.len;have Wm:=ht.2.1.lw;have hS:tl cS=[42]:=by show tl (Str.ofString "*")=_;rw[me]
  have lS:cS.length=1:=by show(Str.ofString "*").length=1;rw[lY];rfl
  show gq _ _ [.str (cg w++cS++n)]=some (.tuple [.str n,aW (gX w)]);generalize cg w=W at *;have hlen:(W++cS++n).length<=30:=by rw[jw,jw,lS];omega
  have zm:tl (W++cS++n)=tl W++42::tl n:=by rw[aR,aR,hS,append_assoc];rfl
  have uA:=hI (W++cS++n) (by omega) (λc hc=>by
   rw[zm]at hc;rcases mem_append.mp hc with z|z
   ·have:=ha c z;omega
   ·rcases mem_cons.mp z with z|z
    ·omega
    ·have:=(Wm c z).2;omega)
  rw[uk (c:=42) (by rw[zm];exact mem_append_right _ mem_cons_self) rfl]at uA;obtain⟨ys,e1,e2⟩:=kZ (x:=W++cS++n) (c:=42) (by decide) (by omega);have e3:eO (.str (W++cS++n)) [.str "*"]=some (ys.map .str):=by rw[show("*" : Str)=⟨#[42]⟩from me];exact e2
  have ey:ys=[W,n]:=dO (by
   rw[e1,zm,Tx.gF 42 _ _ (λz=>by have:=ha 42 z;omega),Tx.fB 42 _ (xF ht.2.1 (by decide))];rfl)
  subst ey;rw[map_cons,map_cons,map_nil]at e3;clear e1 e2 zm;have lp:dC [.list [.str W,.str n]]=some (.int 2):=rfl;have pO:bu (.list [.str W,.str n]) (.int 0)=some (.str W):=rfl;have oB:bu (.list [.str W,.str n]) (.int 1)=some (.str n):=rfl;have g2:=cK 2 2;have q2:=bV 2 1;rw[decide_eq_false (by decide)]at g2 q2;refine bQ ?_;generalize aW (gX w)=df at *;generalize Dat.str (W++cS++n)=dw at *;generalize Dat.str W=ds at *;generalize Dat.str n=dn at *;show bG _ _ [~~~(dw),none]=_;rw[aG (au:=[~~~(dw),none]) (by dsimp![uA])];rw[aG (au:=[~~~(dw),~~~.list [ds,dn]]) (by dsimp![eD,e3])];rw[aG (au:=[~~~(dw),~~~.list [ds,dn]]) (by dsimp![lp,q2])];rw[aG (au:=[~~~(dw),~~~.list [ds,dn]]) (by dsimp![lp,g2,oB,oC])];dsimp![pO,oB,eN,z2]
 |nu w=>
  have hx:w.Ok:=ht;have Wt:=mP hx;have ha:=k6 hx;obtain⟨c,r,ec,hc⟩:=ug w;have eN:=hN w hx;show gq _ _ [.str (cg w)]=some (.tuple [.none,aW (gX w)]);generalize cg w=W at *;have uA:=hI W (by omega) (λc hc=>by have:=ha c hc;omega);rw[uk (c:=c) (by rw[ec];exact mem_cons_self) (decide_eq_false (by omega))]at uA;obtain⟨ys,e1,e2⟩:=kZ (x:=W) (c:=42) (by decide) (by omega);have e3:eO (.str W) [.str "*"]=some (ys.map .str):=by rw[show("*" : Str)=⟨#[42]⟩from me];exact e2
  have ey:ys=[W]:=dO (by rw[e1,Tx.fB 42 _ (λz=>by have:=ha 42 z;omega)];rfl);subst ey;rw[map_cons,map_nil]at e3;clear e1 e2;have lp:dC [.list [.str W]]=some (.int 1):=rfl;have q2:=bV 1 1;rw[decide_eq_true rfl]at q2;refine bQ ?_;generalize aW (gX w)=df at *;generalize Dat.str W=ds at *;show bG _ _ [~~~(ds),none]=_;rw[aG (au:=[~~~(ds),none]) (by dsimp![uA])];rw[aG (au:=[~~~(ds),~~~.list [ds]]) (by dsimp![eD,e3])];refine d9 ?_;dsimp![lp,q2,eN,z2]
variable {t:Tr}
theorem y9(h:fQ t):Pd (fq t):=by
 cases t with
 |nm n=>exact(⟨by decide,by decide,by decide,by decide⟩:Pd (1,1))
 |nu w=>exact DU h
 |nn w n=>exact DU h.1
theorem Aw(h:fQ t):(cM t).length<=22:=by
 have lS:cS.length=1:=by show(Str.ofString "*").length=1;rw[lY];rfl
 cases t with
 |nm n=>exact le_trans (show n.length<=8 from(show mv n from h).1.len) (by decide)
 |nu w=>exact le_trans (mP h) (by decide)
 |nn w n=>
  have h1:=mP h.1;have h2:n.length<=8:=h.2.1.len;show(cg w++cS++n).length<=22;rw[jw,jw,lS];omega
theorem lE(h:fQ t)(hc:c<47)(Ez:c≠42):c∉tl (cM t):=by
 have hS:tl cS=[42]:=by show tl (Str.ofString "*")=_;rw[me]
 cases t with
 |nm n=>exact xF (show mv n from h).1 (by omega)
 |nu w=>exact λz=>by have:=(k6 h c z).1;omega
 |nn w n=>
  show c∉tl (cg w++cS++n);rw[aR,aR,hS];intro z;rcases mem_append.mp z with z|z
  ·rcases mem_append.mp z with z|z
   ·have:=(k6 h.1 c z).1;omega
   ·exact Ez (mem_singleton.mp z)
  ·exact xF h.2.1 (by omega) z
theorem LW(h:fQ t)(hc:122<c):c∉tl (cM t):=by
 have hS:tl cS=[42]:=by show tl (Str.ofString "*")=_;rw[me]
 have hn:∀n:Str,mv n->c∉tl n:=λn h z=>by have:=(h.1.lw c z).2;omega
 cases t with
 |nm n=>exact hn n h
 |nu w=>exact λz=>by have:=(k6 h c z).2;omega
 |nn w n=>
  show c∉tl (cg w++cS++n);rw[aR,aR,hS];intro z;rcases mem_append.mp z with z|z
  ·rcases mem_append.mp z with z|z
   ·have:=(k6 h.1 c z).2;omega
   ·have:c=42:=mem_singleton.mp z;omega
  ·exact hn n h.2 z
theorem oP(h:fQ t):∃c r,tl (cM t)=c::r/\c≠45:=by
 cases t with
 |nm n=>
  have h:mv n:=h;cases e:tl n with
  |nil=>exact absurd e h.1.ne
  |cons c r=>exact⟨c,r,e,λz=>by have:=(h.1.lw c (by rw[e];exact mem_cons_self)).1;omega⟩
 |nu w=>
  obtain⟨c,r,e,hc⟩:=ug w;exact⟨c,r,e,by omega⟩
 |nn w n=>
  obtain⟨c,r,e,hc⟩:=ug w;exact⟨c,r++(tl cS++tl n),by show tl (cg w++cS++n)=_;rw[aR,aR,e,append_assoc];rfl,by omega⟩
noncomputable abbrev Tm:=Option Str×(Int×Int)
noncomputable abbrev bK (t:Tm):Dat:=.tuple [eU t.1,aW t.2]
noncomputable abbrev gC (t:Tm):Tm:=(t.1,kB t.2)
abbrev Pq (F:List Dat->Option Dat):Prop:=∀ts:List Tm,ts.length<=4000->(∀t∈ts,Pd t.2)->F [.list (ts.map bK)]=some (.list ((ts.map gC).map bK))
theorem Hz(T:TX mg)(R:RX P w K mg)(nJ:Dn P w K mg base 3 "minus" ["a","b"] 2 Fm)(hM:BM Fm)(U:FnAt K mg "turned" (top 35) ["terms"]):
  ∃F,Dn P w K mg base 4 "turned" ["terms"] 1 F/\Pq F:=by
 refine⟨_,ek ["terms"] U λnd _ _ _ _ _ _ _ hr=>(aw (aN (dj (ku rfl (eW (N':=["name","number"])) (Gz (ae 0)) (λ_ _ _ _=>(sU (n:=2) rfl (gL (bp 0 (show(["name","number"]:List Str).Nodup by decide +kernel)) (gL (bp 1 (show(["name","number"]:List Str).Nodup by decide +kernel)) nO)))) (λ_ _ _ _=>dY) (λ_ _ _ _=>(dZ (k:=0) (af (ae 0) (af (aL nJ hr (af (il R.zr.choose_spec.mg R.zr.choose_spec.tup) (af (ae 1) ah))) ah (hs:=bf))))) (M0 rfl rfl))))),?_⟩;intro ts hl hp;have z2:2<=sizeLine:=sz (by decide);refine bQ (gj ?_);refine lQ (ds:=ts.map bK) ?_ ?_ ?_
 ·rfl
 ·rw[length_map];exact bC hl
 rw[map_map];refine eV bK _ ts λt ht=>⟨[(0,eU t.1),(1,aW t.2)],rfl,?_⟩;have e:=IT hM (hp t ht);show _=some (Dat.tuple [eU t.1,aW (kB t.2)]);generalize aW (kB t.2)=d2 at *;generalize aW t.2=d1 at *;generalize eU t.1=d0 at *;dsimp![e,z2]
theorem yn(h:tl x=c::tl y)(hl:x.length<=4000):nZ (.str x) (some 1) none=some (.str y):=by
 have h1:1<=x.length:=by rw[<- bH,h];exact succ_pos _
 obtain⟨z,e1,e2⟩:=jV (x:=x) (j:=1) h1 hl;have:z=y:=d6 (by rw[e2,h];rfl);rw[<- this];exact e1
noncomputable abbrev Sg:=Bool×Tr
noncomputable abbrev cm (t:Sg):Tx.Wd:=⟨t.1,cM t.2⟩
noncomputable abbrev cN (t:Sg):Tm:=(w6 t.2,if t.1=true then kB (fq t.2)else fq t.2)
abbrev A9 (F:List Dat->Option Dat):Prop:=∀t:Sg,fQ t.2->F [.str (Tx.term (cm t))]=some (bK (cN t))
theorem Mp{t:Sg}(h:fQ t.2):Pd (cN t).2:=by
 show Pd (if t.1=true then kB (fq t.2)else fq t.2);split
 ·exact um (y9 h)
 ·exact y9 h
variable {Ft:List Dat->Option Dat}
theorem EU(T:TX mg)(R:RX P w K mg)(mF:Dn P w K mg base 4 "read_term" ["word"] 1 Ft)(hT:SH Ft)(nJ:Dn P w K mg base 4 "minus" ["a","b"] 2 Fm)(hM:BM Fm)(U:FnAt K mg "read_signed_term" (top 36) ["word"]):
  ∃F,Dn P w K mg base 5 "read_signed_term" ["word"] 1 F/\A9 F:=by
 refine⟨_,ek ["word","term"] U λnd _ _ _ _ _ _ _ hr=>(ao (aH (bM (g8 (ae 0) (af ar ah))) (ao (az 1 nd (aL mF hr (af (br (ae 0) (aV ai) bj) ah (hs:=aJ))))
  (aw (aN (dZ (k:=0) (af (aB (ae 1) ai) (af (aL nJ hr (af (il R.zr.choose_spec.mg R.zr.choose_spec.tup) (af (aB (ae 1) ai) ah (hs:=aJ)))) ah (hs:=bf)) (hs:=aJ)))))) aE)
  (aw (aN (aL mF hr (af (ae 0) ah))))),?_⟩
 have z2:2<=sizeLine:=sz (by decide);have neg:∀(x W:Str) (n:Dat) (a:Int×Int),tl x=45::tl W->x.length<=4000->Pd a->Ft [.str W]=some (.tuple [n,aW a])->gq ["word","term"] (bG (eI (ja (fP fA (aj 0) (ax (fC (.str "-")) aK))) (bG (cW 1 (cu 1 Ft (ax (gD (aj 0) (dI (fC (.int 1))) eE) aK))) (iW (qG (ax (L3.f2 bu (aj 1) (fC (.int 0))) (ax (cu 2 Fm (ax (fC (.tuple [.int 0,.int 1])) (ax (L3.f2 bu (aj 1) (fC (.int 1))) aK))) aK))))) dX) (iW (cu 1 Ft (ax (aj 0) aK)))) [.str x]=some (.tuple [n,aW (kB a)]):=λx W n a hx hl ha e=>by
  have s1:fA (.str x) [.str "-"]=some (.bool true):=by
   rw[show("-" : Str)=⟨#[45]⟩from su,j4,hx];rfl
  have s2:=yn hx hl;have s3:=IT hM ha;have i0:bu (.tuple [n,aW a]) (.int 0)=some n:=rfl;have i1:bu (.tuple [n,aW a]) (.int 1)=some (aW a):=rfl;refine bQ (d9 ?_);generalize Dat.tuple [n,aW a]=dt at *;generalize aW (kB a)=d2 at *;generalize aW a=d1 at *;generalize Dat.str x=dx at *;generalize Dat.str W=dW at *;show eI _ _ _ [~~~(dx),none]=_;dsimp![gD,dI,eE,kg,s1,s2,e,i0,i1,s3,z2]
 have pos:∀(x:Str) (d:Dat),(∃c r,tl x=c::r/\c≠45)->Ft [.str x]=some d->gq ["word","term"] (bG (eI (ja (fP fA (aj 0) (ax (fC (.str "-")) aK))) (bG (cW 1 (cu 1 Ft (ax (gD (aj 0) (dI (fC (.int 1))) eE) aK))) (iW (qG (ax (L3.f2 bu (aj 1) (fC (.int 0))) (ax (cu 2 Fm (ax (fC (.tuple [.int 0,.int 1])) (ax (L3.f2 bu (aj 1) (fC (.int 1))) aK))) aK))))) dX) (iW (cu 1 Ft (ax (aj 0) aK)))) [.str x]=some d:=λx d hx e=>by
  have s1:fA (.str x) [.str "-"]=some (.bool false):=by
   obtain⟨c,r,ec,hc⟩:=hx;rw[show("-" : Str)=⟨#[45]⟩from su,j4,ec];show some (Dat.bool (some c==some 45))=_;rw[show(some c==some 45)=false by simpa using hc]
  refine bQ ?_;generalize Dat.str x=dx at *;show bG _ _ [~~~(dx),none]=_;dsimp![s1,e]
 rintro⟨b,t⟩ ht;have ht:fQ t:=ht;have e:=hT t ht;have hl:=Aw ht;cases b with
 |true=>
  have Wr:(Tx.zM++cM t).length<=4000:=by rw[jw];show 1+_<=4000;omega
  exact neg (Tx.zM++cM t) (cM t) (eU (w6 t)) (fq t) (by rw[aR];rfl) Wr (y9 ht) e
 |false=>exact pos (cM t) _ (oP ht) e
theorem tV{t:Sg}(h:fQ t.2):Tx.Gw (cm t):=by
 obtain⟨c,r,e,_⟩:=oP h;exact⟨λz=>(by rw[show tl (cm t).word=c::r from e]at z;cases z),lE h (by decide) (by decide),lE h (by decide) (by decide)⟩
noncomputable abbrev txt (ws:List Tx.Wd):Str:=ws.foldl Tx.eF ⟨#[]⟩
theorem P4:(Str.ofString "+-" : Str)=⟨#[43,45]⟩:=by decide +kernel
theorem yw:∀l:List Nat,(Tx.rm l).length<=2*l.length
 |[]=>le_refl _
 |a::l=>by
  have:=yw l;show((if a=45 then[43,45]else[a])++Tx.rm l).length<=_;rw[length_append,length_cons];split
  ·show 2+_<=_;omega
  ·show 1+_<=_;omega
abbrev FT (Fs F:List Dat->Option Dat):Prop:=∀(v:Tx.Wd) (ws:List Tx.Wd) (out:Tx.Wd->Dat),(∀u∈v::ws,Tx.Gw u)->(v::ws).length<=100->(txt (v::ws)).length<=80->(∀u∈v::ws,Fs [.str (Tx.term u)]=some (out u))->F [.str (txt (v::ws))]=some (.list ((v::ws).map out))
theorem OT(T:TX mg)(R:RX P w K mg)(jz:Dn P w K mg base 5 "read_signed_term" ["word"] 1 Fs)(U:FnAt K mg "read_sum" (top 37) ["word"]):
  ∃F,va P w K mg base 6 "read_sum" ["word"] 1 F/\FT Fs F:=by
 refine⟨_,IB ["word","pieces"] U λnd _ _ _ _ _ _ _ hr=>(jX (rq (aH (dP (aY T.len (af (ae 0) ah)) (eT R.ls)) (aw bS) aE))
  (jX (oY 1 nd (wk (yA (ae 0)) (af ar ah)))
  (jK (ao (aH (bM (g8 (ae 0) (af ar ah))) (aw (az 1 nd (iC (ae 1) (aV ai) bj))) aE)
  (aw (aN (dj (fK rfl (eW (N':=["piece"])) (ae 1) (λ_ _ _ _=>(bp 0 (show(["piece"]:List Str).Nodup by decide +kernel))) (λ_ _ _ _=>dY) (λ_ _ _ _=>(aL jz hr (af (ae 0) ah))) (cY rfl))))))))),?_⟩
 intro v ws out hg hlen pP hs;have hl:=len_str (x:=txt (v::ws)) (by omega);have g1:=cK ((txt (v::ws)).length:Int) 80;rw[decide_eq_false (by omega)]at g1;have hh:=Tx.EF v ws hg;have s1:fA (.str (txt (v::ws))) [.str "-"]=some (.bool v.neg):=by
  rw[show("-" : Str)=⟨#[45]⟩from su,j4,hh]
 obtain⟨x',ex⟩:∃x',x'=Txt.replace (txt (v::ws)) ⟨#[45]⟩ ⟨#[43,45]⟩:=⟨_,rfl⟩;have Ow:tl x'=Tx.rm (tl (txt (v::ws))):=by rw[ex];exact Tx.lH _
 have r1:xC "-" "+-" (.str (txt (v::ws)))=some (.str x'):=by
  rw[show("-" : Str)=⟨#[45]⟩from su,show("+-" : Str)=⟨#[43,45]⟩from P4,ex];refine if_pos ?_;show _+(_+1)*2<=16777216;omega
 have W0:x'.length<=4000:=by
  have:=yw (tl (txt (v::ws)));rw[<- Ow,bH,bH]at this;omega
 obtain⟨ys,e1,e2⟩:=kZ (x:=x') (c:=43) (by decide) W0;rw[Ow,Tx.wu v ws hg]at e1;have ey:ys=(if v.neg=true then[(⟨#[]⟩:Str)]else[])++(v::ws).map Tx.term:=dO (by
  rw[e1,map_append,map_map];congr 1
  split<;>rfl)
 have e3:eO (.str x') [.str "+"]=some (ys.map .str):=by rw[show("+" : Str)=⟨#[43]⟩from vR];exact e2
 clear e1 e2 Ow ex;have ec:cL (aName 0) cQ (cu 1 Fs (ax (aj 0) aK)) [none] (((v::ws).map Tx.term).map Dat.str)=some ((v::ws).map out):=by
  rw[map_map];refine eV (λu=>Dat.str (Tx.term u)) out (v::ws) λu hu=>⟨[(0,.str (Tx.term u))],rfl,?_⟩;have e:=hs u hu;generalize Dat.str (Tx.term u)=du at *;dsimp![e]
 have Ei:(((v::ws).map Tx.term).map Dat.str).length<sizeLine:=by rw[length_map,length_map];exact bC (by omega)
 refine bQ ?_;generalize (v::ws).map out=outs at *;generalize (v::ws).map Tx.term=ts at *;generalize ((txt (v::ws)).length:Int)=n at *;show bG _ _ [~~~.str (txt (v::ws)),none]=_;generalize Dat.str (txt (v::ws))=dx at *;rw[aG (au:=[~~~(dx),none]) (by dsimp![hl,g1])];rw[aG (au:=[~~~(dx),~~~.list (ys.map .str)]) (by
  generalize Dat.str x'=XM at *;dsimp![eD,r1,e3])]
 have fin:iW (fL (d7 [none] (aName 0) cQ (cu 1 Fs (ax (aj 0) aK)) (aj 1))) [~~~(dx),~~~.list (ts.map .str)]=some (.rt (.list outs)):=gj (iG (d:=.list (ts.map .str)) (ds:=ts.map .str) rfl rfl Ei ec);cases hn:v.neg with
 |true=>
  rw[hn]at s1 ey;rw[if_pos rfl]at ey;have sl:rW (.list (ys.map .str)) (some 1) none=some (.list (ts.map .str)):=by
   rw[ey];show some (Dat.list (L3.cutD (([(⟨#[]⟩:Str)]++ts).map Dat.str) (some ((1:Nat):Int)) none))=_;unfold L3.cutD;rw[HT.rk,HT.oU];have h1:min 1 (([(⟨#[]⟩:Str)]++ts).map Dat.str).length=1:=by rw[length_map,length_append];show min 1 (1+_)=1;omega
   rw[h1];show some (Dat.list (((([(⟨#[]⟩:Str)]++ts).map Dat.str).drop 1).take _))=_;rw[take_of_length_le (by rw[length_drop];omega)];rfl
  rw[aG (au:=[~~~(dx),~~~.list (ts.map .str)]) (by
   generalize Dat.list (ys.map .str)=dy at *;generalize Dat.list (ts.map .str)=fX at *;dsimp![s1,o9,dI,eE,kg,sl])]
  exact fin
 |false=>
  rw[hn]at s1 ey;rw[if_neg Bool.false_ne_true,nil_append]at ey;rw[ey];rw[aG (au:=[~~~(dx),~~~.list (ts.map .str)]) (by
   generalize Dat.list (ts.map .str)=fX at *;dsimp![s1])]
  exact fin
noncomputable abbrev xV (ns:List Nat):Dat:=.list (ns.map λn:Nat=>.str (S (n:Int)))
def K5 (k k':Str) (tu:Bool):Prop:=(k=Str.ofString "="/\k'=Str.ofString "="/\tu=false)\/(k=Str.ofString "<="/\k'=Str.ofString "<="/\tu=false)\/(k=Str.ofString "<"/\k'=Str.ofString "<"/\tu=false)\/(k=Str.ofString ">="/\k'=Str.ofString "<="/\tu=true)\/(k=Str.ofString ">"/\k'=Str.ofString "<"/\tu=true)
noncomputable abbrev oA (ts us:List Tm) (tu:Bool):List Tm:=if tu=true then(ts++us.map gC).map gC else ts++us.map gC
abbrev SO (Fs F:List Dat->Option Dat):Prop:=∀(a l k k' r:Str) (tu:Bool) (ts us:List Tm) (ns:List Nat),K5 k k' tu->ts.length+us.length<=100->(∀t∈ts,Pd t.2)->(∀t∈us,Pd t.2)->Fs [.str l]=some (.list (ts.map bK))->Fs [.str r]=some (.list (us.map bK))->ns.length<=100->(∀n∈ns,n<1000000)->F [.str a,.str l,.str k,.str r,xV ns]=some (.tuple [.str a,.str k',.list ((oA ts us tu).map bK),.list (ns.map λn:Nat=>.int (n:Int))])
variable {tu:Bool}
theorem NB{k k':Str}(h:K5 k k' tu):vG uq (.str k)=some (.bool false)/\td uq (.str k)=some (.str k')/\fA (.str k) [.str ">"]=some (.bool tu):=by
 rcases h with⟨e,e2,e3⟩|⟨e,e2,e3⟩|⟨e,e2,e3⟩|⟨e,e2,e3⟩|⟨e,e2,e3⟩<;>subst e<;>subst e2<;>subst e3
 ·exact⟨rfl,rfl,rfl⟩
 ·exact⟨rfl,rfl,rfl⟩
 ·exact⟨rfl,rfl,rfl⟩
 ·exact⟨rfl,rfl,rfl⟩
 ·exact⟨rfl,rfl,rfl⟩
theorem Lm(T:TX mg)(R:RX P w K mg)(kj:va P w K mg base 6 "read_sum" ["word"] 1 Fs)(mT:Dn P w K mg base 6 "turned" ["terms"] 1 Ft)(hT:Pq Ft)(fI:Dn P w K mg base 6 "read_whole" ["word"] 1 Fw)(hW:BJ Fw)(U:FnAt K mg "read_line" (top 38) ["word","left","sign","right","numbers"]):
  ∃F,va P w K mg base 7 "read_line" ["word","left","sign","right","numbers"] 5 F/\SO Fs F:=by
 refine⟨_,IB ["word","left","sign","right","numbers","terms"] U λnd _ _ _ _ _ _ _ hr=>(jX (rq (aH (qj R.ki (ae 2)) (aw bS) aE))
  (jX (oY 5 nd (yB (jg kj hr (hV (af (ae 1) ah))) (Dk mT hr (wj (jg kj hr (hV (af (ae 3) ah))) (hV ah) (hs:=bf)))))
  (jK (ao (aH (bM (g8 (ae 2) (af ar ah))) (aw (az 5 nd (aL mT hr (af (ae 5) ah)))) aE)
  (aw (aN (dZ (k:=0) (af (ae 0) (af (mZ R.ki (ae 2)) (af (ae 5) (af (dj (fK rfl (eW (N':=["number"])) (ae 4) (λ_ _ _ _=>(bp 0 (show(["number"]:List Str).Nodup by decide +kernel))) (λ_ _ _ _=>dY) (λ_ _ _ _=>(aL fI hr (af (ae 0) ah))) (cY rfl))) ah)) (hs:=aJ)))))))))),?_⟩
 intro a l k k' r tu ts us ns hk hlen NM RP el er hn wM;obtain⟨k1,k2,k3⟩:=NB hk;have et:=hT us (by omega) RP;have z4:4<=sizeLine:=sz (by decide);have ea:jO (.list (ts.map bK)) (.list ((us.map gC).map bK))=some (.list ((ts++us.map gC).map bK)):=by
  show(if(ts.map bK).length+((us.map gC).map bK).length<=sizeLine then some (Dat.list (ts.map bK++(us.map gC).map bK))else none)=_;rw[if_pos (by rw[length_map,length_map,length_map];exact sz (by omega)),<- map_append]
 have Ox:=hT (ts++us.map gC) (by rw[length_append,length_map];omega) (λt ht=>by
  rcases mem_append.mp ht with ht|ht
  ·exact NM t ht
  ·obtain⟨u,hu,rfl⟩:=mem_map.mp ht;exact um (RP u hu))
 have ec:cL (aName 0) cQ (cu 1 Fw (ax (aj 0) aK)) [none] (ns.map λn:Nat=>Dat.str (S (n:Int)))=some (ns.map λn:Nat=>Dat.int (n:Int)):=
  eV (λn:Nat=>Dat.str (S (n:Int))) (λn:Nat=>Dat.int (n:Int)) ns λn hm=>⟨[(0,.str (S (n:Int)))],rfl,by
   have e:=hW n (wM n hm);generalize Dat.str (S (n:Int))=du at *;dsimp![e]⟩
 have hz:(ns.map λn:Nat=>Dat.str (S (n:Int))).length<sizeLine:=by rw[length_map];exact bC (by omega)
 have Sr:∀d:Dat,fL (d7 [none] (aName 0) cQ (cu 1 Fw (ax (aj 0) aK)) (aj 4)) [some (.str a),some (.str l),some (.str k),some (.str r),some (xV ns),some d]=some (.list (ns.map λn:Nat=>Dat.int (n:Int))):=λd=>iG (d:=xV ns) (ds:=ns.map λn:Nat=>Dat.str (S (n:Int))) rfl rfl hz ec;clear ec hz;refine bQ ?_;show bG _ _ [~~~.str a,~~~.str l,~~~.str k,~~~.str r,~~~(xV ns),none]=_;generalize (ns.map λn:Nat=>Dat.int (n:Int))=dis at *;have elt:(oA ts us tu).map bK=if tu=true then((ts++us.map gC).map gC).map bK else(ts++us.map gC).map bK:=by cases tu<;>rfl
 rw[elt];generalize ((ts++us.map gC).map gC).map bK=qI at *;generalize (ts++us.map gC).map bK=fX at *;generalize Dat.list ((us.map gC).map bK)=XW at *;generalize Dat.list (us.map bK)=XQ at *;generalize Dat.list (ts.map bK)=dt at *;generalize xV ns=cH at *;generalize Dat.str a=da at *;generalize Dat.str l=dl at *;generalize Dat.str r=dr at *;generalize Dat.str k=dk at *;generalize Dat.str k'=Su at *;rw[aG (au:=[~~~(da),~~~(dl),~~~(dk),~~~(dr),~~~(cH),none]) (by dsimp![k1])];rw[aG (au:=[~~~(da),~~~(dl),~~~(dk),~~~(dr),~~~(cH),~~~.list fX]) (by
  generalize Dat.list fX=dd at *;dsimp![el,er,et,ea])]
 rw[aG (au:=[~~~(da),~~~(dl),~~~(dk),~~~(dr),~~~(cH),~~~.list (if tu=true then qI else fX)]) (by
  cases tu with
  |true=>
   rw[if_pos rfl];generalize Dat.list fX=dd at *;generalize Dat.list qI=wX at *;dsimp![k3,Ox]
  |false=>
   rw[if_neg Bool.false_ne_true];generalize Dat.list fX=dd at *;dsimp![k3])]
 refine gj ?_;have ef:=Sr (.list (if tu=true then qI else fX));generalize Dat.list (if tu=true then qI else fX)=dd at *;show qG (ax (aj 0) (ax (L3.f1 (td uq) (aj 2)) (ax (aj 5) (ax (fL (d7 [none] (aName 0) cQ (cu 1 Fw (ax (aj 0) aK)) (aj 4))) aK)))) [some da,some dl,some dk,some dr,some cH,some dd]=_;clear Sr;generalize fL (d7 [none] (aName 0) cQ (cu 1 Fw (ax (aj 0) aK)) (aj 4))=fx at *;dsimp![k2,ef,z4]
theorem OP:∀(l:List Nat),(∀c∈l,48<=c/\c<=57)->l≠[]->(l.head?=some 48->l=[48])->∃n,l=Tx.dig n/\n<10^l.length:=by
 intro l;induction hk:l.length generalizing l with
 |zero=>intro _ h;exact absurd (length_eq_zero_iff.mp hk) h
 |succ k ih=>
  intro hd i8 hz;obtain⟨l',c,rfl⟩:∃l' c,l=l'++[c]:=⟨l.dropLast,l.getLast i8,(List.dropLast_concat_getLast i8).symm⟩;have hl:l'.length=k:=by rw[length_append,length_singleton]at hk;omega
  have hc:=hd c (by simp);by_cases h0:l'=[]
  ·subst h0;refine⟨c-48,?_,?_⟩
   ·rw[Tx.gP (by omega)];show[c]=_;rw[show 48+(c-48)=c by omega]
   ·rw[show k=0 by simpa using hl.symm];omega
  ·have Ej:l'.head?=some 48->l'=[48]:=λh=>by
    have:=hz (by rw[List.head?_append,h];rfl);have hlen:=congrArg List.length this;rw[length_append]at hlen;simp at hlen;exact absurd hlen h0
   obtain⟨n,e,hn⟩:=ih l' hl (λd Jh=>hd d (mem_append_left _ Jh)) h0 Ej;have n1:1<=n:=by
    rcases Nat.eq_zero_or_pos n with z|z
    ·subst z;have e0:l'=[48]:=by rw[e];exact Tx.gP (by decide)
     have:=hz (by rw[e0];rfl);rw[e0]at this;simp at this
    ·exact z
   refine⟨10*n+(c-48),?_,?_⟩
   ·rw[Tx.lh (by omega),show(10*n+(c-48))/10=n by omega,show(10*n+(c-48)) % 10=c-48 by omega,<- e,show 48+(c-48)=c by omega]
   ·rw[Nat.pow_succ];omega
theorem xY(h:f6 x=true):∃n:Nat,n<1000000/\x=S (n:Int):=by
 unfold f6 at h;obtain⟨h,h3⟩:=and_eq_true_iff.mp h;obtain⟨h1,h2⟩:=and_eq_true_iff.mp h;have h1:=of_decide_eq_true h1;have hd:∀c∈tl x,48<=c/\c<=57:=λc hc=>of_decide_eq_true (all_eq_true.mp h3 c hc);have hl:(tl x).length=x.length:=bH x;obtain⟨n,e,hn⟩:=OP (tl x) hd (λz=>by rw[z]at hl;simp at hl;omega) (λhz=>by
  rw[hz]at h2;have:x=("0" : Str):=by simpa using h2
  rw[this];decide +kernel)
 refine⟨n,lt_of_lt_of_le hn (by
  rw[hl];exact le_trans (Nat.pow_le_pow_right (by decide) h1.2) (by decide)),d6 (by rw[e,ly])⟩
noncomputable abbrev bE (c:Nat) (x:Str):List Str:=Txt.split x ⟨#[c]⟩
theorem cU(h:c<256)(x:Str):(bE c x).map tl=Tx.bB c (tl x):=Tx.lG h x
theorem n8(h:c<256)(hl:x.length<=4000):eO (.str x) [.str ⟨#[c]⟩]=some ((bE c x).map .str):=by
 obtain⟨ys,e1,e2⟩:=kZ h hl;rw[e2,dO (e1.trans (cU h x).symm)]
theorem tS(c:Nat):∀(l p:List Nat),p∈Tx.bB c l->(∀d∈p,d∈l)/\p.length<=l.length
 |[],p,h=>by
  have:p=[]:=by simpa [Tx.bB]using h
  subst this;exact⟨λd hd=>(by cases hd),le_refl _⟩
 |a::l,p,h=>by
  unfold Tx.bB at h;split at h
  ·rcases mem_cons.mp h with rfl|h
   ·exact⟨λd hd=>(by cases hd),zero_le _⟩
   ·obtain⟨h1,h2⟩:=tS c l p h;exact⟨λd hd=>mem_cons_of_mem _ (h1 d hd),le_succ_of_le h2⟩
  ·split at h
   ·have:p=[a]:=by simpa using h
    subst this;exact⟨λd hd=>by rw[mem_singleton.mp hd];exact mem_cons_self,by simp⟩
   ·rename_i hh t e;rcases mem_cons.mp h with rfl|h
    ·obtain⟨h1,h2⟩:=tS c l hh (by rw[e];exact mem_cons_self);exact⟨λd hd=>by
      rcases mem_cons.mp hd with rfl|hd
      ·exact mem_cons_self
      ·exact mem_cons_of_mem _ (h1 d hd),by simp;exact h2⟩
    ·obtain⟨h1,h2⟩:=tS c l p (by rw[e];exact mem_cons_of_mem _ h);exact⟨λd hd=>mem_cons_of_mem _ (h1 d hd),le_succ_of_le h2⟩
structure Tok (x:Str):Prop where
 l:x.length<=4000
 a:vd x
theorem jh(hc:c<256)(h:Tok x)(hy:y∈bE c x):Tok y:=by
 have hm:tl y∈Tx.bB c (tl x):=by rw[<- cU hc x];exact mem_map.mpr ⟨y,hy,rfl⟩
 obtain⟨h1,h2⟩:=tS c _ _ hm;rw[bH,bH]at h2;exact⟨le_trans h2 h.l,λd hd=>h.a d (h1 d hd)⟩
theorem lJ(hc:c<256):bE c x≠[]:=λz=>by
 have:=cU hc x;rw[z]at this;exact Tx.iO c _ this.symm
theorem Q1{ga gb:ay->Bool}(h:ft (bo Γ)=some true):xE (yIf ft ga gb) Γ=xE ga Γ:=by unfold xE yIf;rw[h]
theorem C6(ds:List Dat):dC [.list ds]=some (.int ds.length):=rfl
noncomputable def qu (x:Str):Bool:=match bE 47 x with
 |[a]=>f6 a
 |[a,b]=>f6 a&&(f6 b&&!decide (b=("0" : Str)))
 |_=>false
abbrev SM (c:iR) (R:List Dat->Addr->Bool):Prop:=∀x:Str,Tok x->qu x=false->R [.str x] c.nf=true
variable {Rw:List Dat->Addr->Bool}
theorem Ck(T:TX mg)(R:RX P w K mg){c:iR}(EK:EX K mg c)(fI:Dn P w K mg base 2 "read_whole" ["word"] 1 Fw)(hW:BJ Fw)(lx:DnX P w K mg base 2 "read_whole" ["word"] 1 Rw)(Ey:JG c Rw)(U:FnAt K mg "read_number" (top 33) ["word"]):
  ∃R,DnX P w K mg base 3 "read_number" ["word"] 1 R/\SM c R:=by
 refine⟨_,qdnX ["word","pieces","n","d"] U λnd _ _ _ _ _ _ _ _ hr hx=>(qr_tl (az 1 nd (gM (ae 0) (af ar ah)))
  (qr_cons (qr_if (dP (aY T.len (af (ae 1) ah)) ai) (qr_one (qr_raise hx EK.nf (af ar ah))) qr_no) (aH (dP (aY T.len (af (ae 1) ah)) ai) (aw bS) aE)
  (qr_cons (qr_set 2 nd (qre_call lx hr hx (af (aB (ae 1) ai) ah (hs:=aJ)) (he:=aJ))) (az 2 nd (aL fI hr (af (aB (ae 1) ai) ah (hs:=aJ))))
  (qr_cons (qr_set 3 nd (qre_ifExp (aX hr (aY T.len (af (ae 1) ah)) ai) (qre_call lx hr hx (af (aB (ae 1) ai) ah (hs:=aJ)) (he:=aJ)) qre_no)) (az 3 nd (qk (aX hr (aY T.len (af (ae 1) ah)) ai) (aL fI hr (af (aB (ae 1) ai) ah (hs:=aJ))) ai))
  (qr_hd (qr_if (aX hr (ae 3) ai) (qr_one (qr_raise hx EK.nf (af ar ah))) qr_no)))))),?_⟩
 intro x hx hn;have e2:eO (.str x) [.str "/"]=some ((bE 47 x).map .str):=by
  rw[show("/" : Str)=⟨#[47]⟩from vQ];exact n8 (by decide) hx.l
 have ht:∀y∈bE 47 x,Tok y:=λy hy=>jh (by decide) hx hy;have i8:bE 47 x≠[]:=lJ (by decide);unfold qu at hn;generalize bE 47 x=ys at *;refine(bI (au:=[~~~.str x,~~~.list (ys.map .str),none,none]) (by
  generalize Dat.str x=dx at *;generalize ys.map Dat.str=si at *;show cW _ _ [~~~dx,none,none,none]=_;dsimp![eD,e2])).trans ?_
 rcases ys with _|⟨a,_|⟨b,_|⟨y,t⟩⟩⟩
 ·exact absurd rfl i8
 ·have hw:f6 a=false:=hn;have ta:=ht a mem_cons_self;have lp:dC [.list [.str a]]=some (.int 1):=rfl;have pO:bu (.list [.str a]) (.int 0)=some (.str a):=rfl;have g2:=cK 1 2;rw[decide_eq_false (by decide)]at g2;have hR:=Ey a ta.l ta.a hw;rw[map_cons,map_nil]at *;generalize Dat.str x=dx at *;generalize Dat.str a=da at *;refine eY ((bI (au:=[~~~(dx),~~~.list [da],none,none]) (by dsimp![lp,g2])).trans (g6 (gk (ds:=[da]) (by dsimp![pO]) rfl hR)))
 ·have ta:=ht a mem_cons_self;have tb:=ht b (mem_cons_of_mem _ mem_cons_self);have hw:(f6 a&&(f6 b&&!decide (b=("0" : Str))))=false:=hn;have lp:dC [.list [.str a,.str b]]=some (.int 2):=rfl;have pO:bu (.list [.str a,.str b]) (.int 0)=some (.str a):=rfl;have oB:bu (.list [.str a,.str b]) (.int 1)=some (.str b):=rfl;have g2:=cK 2 2;rw[decide_eq_false (by decide)]at g2;have q2:=bV 2 2;rw[decide_eq_true (by decide)]at q2;rw[map_cons,map_cons,map_nil]at *;generalize Dat.str x=dx at *;refine eY ((bI (au:=[~~~(dx),~~~.list [.str a,.str b],none,none]) (by
   generalize Dat.str a=da at *;generalize Dat.str b=db at *;dsimp![lp,g2])).trans ?_)
  cases ha:f6 a with
  |false=>
   have hR:=Ey a ta.l ta.a ha;generalize Dat.str a=da at *;generalize Dat.str b=db at *;exact g6 (gk (ds:=[da]) (by dsimp![pO]) rfl hR)
  |true=>
   obtain⟨n,oC,uA⟩:=xY ha;have wa:=hW n oC;rw[<- uA]at wa;refine eY ((bI (au:=[~~~(dx),~~~.list [.str a,.str b],~~~.int (n:Int),none]) (by
    generalize Dat.str a=da at *;generalize Dat.str b=db at *;generalize (n:Int)=ni at *;dsimp![pO,wa])).trans ?_)
   cases hb:f6 b with
   |false=>
    have hR:=Ey b tb.l tb.a hb;generalize Dat.str a=da at *;generalize Dat.str b=db at *;exact g6 (by
     refine(Q1 ?_).trans (gk (ds:=[db]) ?_ rfl hR)
     ·dsimp![lp,q2]
     ·dsimp![oB])
   |true=>
    have hz:b=("0" : Str):=by simpa [ha,hb]using hw
    have wb:=hW 0 (by decide);have WO:S ((0:Nat):Int)=b:=by rw[hz];exact d6 (by rw[ly];decide +kernel)
    rw[WO]at wb;refine eY ((bI (au:=[~~~(dx),~~~.list [.str a,.str b],~~~.int (n:Int),~~~.int ((0:Nat):Int)]) (by
     generalize Dat.str a=da at *;generalize Dat.str b=db at *;generalize (n:Int)=ni at *;generalize ((0:Nat):Int)=zi at *;dsimp![lp,q2,oB,wb])).trans ?_)
    refine(g7 ?_).trans (fJ rfl (by decide));generalize Dat.str a=da at *;generalize Dat.str b=db at *;generalize (n:Int)=ni at *;have q3:=bV ((0:Nat):Int) 0;rw[decide_eq_true (by rfl)]at q3;generalize ((0:Nat):Int)=zi at *;dsimp![q3]
 ·have lp:=C6 ((a::b::y::t).map .str);have g2:=cK (((a::b::y::t).map Dat.str).length:Int) 2;rw[decide_eq_true (by rw[length_map];simp only[length_cons];omega)]at g2;generalize Dat.str x=dx at *;generalize ((a::b::y::t).map Dat.str)=si at *;generalize (si.length:Int)=n at *;refine g6 ((g7 ?_).trans (fJ rfl (by decide)));dsimp![lp,g2]
variable {fa:ay->Option Dat}
theorem mG{g:ay->Bool}{d:Dat}(h:fa (bo Γ)=some d)(hg:xE g Γ=true):xE (yAnd fa g) Γ=true:=by
 unfold xE yAnd at *;rw[h,hg];rfl
theorem iS{c:Nat}:∀{l p:List Nat},Tx.bB c l=[p]->l=p
 |[],p,h=>by
  have:[]=p:=by simpa [Tx.bB]using h
  exact this
 |a::l,p,h=>by
  unfold Tx.bB at h;split at h
  ·injection h with _ h;exact absurd h (Tx.iO c _)
  ·split at h
   ·rename_i e;exact absurd e (Tx.iO c _)
   ·rename_i hh t e;injection h with h1 h2;subst h2;rw[<- h1,iS e]
theorem mH{c:Nat}:∀{l p q:List Nat} {r:List (List Nat)},Tx.bB c l=p::q::r->∃l',l=p++c::l'/\Tx.bB c l'=q::r
 |[],p,q,r,h=>by simp[Tx.bB]at h
 |a::l,p,q,r,h=>by
  unfold Tx.bB at h;split at h
  ·rename_i hc;injection h with h1 h2;subst h1;exact⟨l,by rw[hc];rfl,h2⟩
  ·split at h
   ·rename_i e;exact absurd e (Tx.iO c _)
   ·rename_i hh t e;injection h with h1 h2;subst h2;obtain⟨l',e1,e2⟩:=mH e;exact⟨l',by rw[<- h1,e1];rfl,e2⟩
theorem AX(hc:c<256)(h:bE c x=[a]):x=a:=d6 (iS (by rw[<- cU hc x,h];rfl))
theorem AW(hc:c<256)(h:bE c x=[a,b]):x=a++⟨#[c]⟩++b:=by
 obtain⟨l',e1,e2⟩:=mH (c:=c) (l:=tl x) (p:=tl a) (q:=tl b) (r:=[]) (by rw[<- cU hc x,h];rfl);refine d6 ?_;rw[e1,iS e2,aR,aR,append_assoc];rfl
theorem S0:S ((0:Nat):Int)=("0" : Str):=d6 (by rw[ly];decide +kernel)
theorem DV(h:qu x=true):∃w:Nw,w.Ok/\x=cg w:=by
 unfold qu at h;split at h
 ·rename_i a e;obtain⟨n,h1,h2⟩:=xY h;exact⟨⟨n,1,false⟩,⟨h1,le_refl 1,(by decide:1<1000000),λ_=>rfl⟩,by rw[AX (by decide) e,h2];rfl⟩
 ·rename_i a b e;obtain⟨ha,hb⟩:=and_eq_true_iff.mp h;obtain⟨hb,hz⟩:=and_eq_true_iff.mp hb;obtain⟨n,n1,n2⟩:=xY ha;obtain⟨m,m1,m2⟩:=xY hb;have hm:m≠0:=λz=>by
   subst z;rw[m2,S0]at hz;simp at hz
  refine⟨⟨n,m,true⟩,⟨n1,by show 1<=m;omega,m1,λz=>by cases z⟩,?_⟩;rw[AW (by decide) e,n2,m2];show _=S (n:Int)++Str.ofString "/"++S (m:Int);rw[vQ]
 ·cases h
theorem Nf(h:gu x=true):mv x:=by
 unfold gu at h;obtain⟨h,h3⟩:=and_eq_true_iff.mp h;obtain⟨h1,h2⟩:=and_eq_true_iff.mp h;have h1:=of_decide_eq_true h1;refine⟨⟨λz=>?_,h1.2,λc hc=>of_decide_eq_true (all_eq_true.mp h3 c hc)⟩,λz=>?_⟩
 ·have:=bH x;rw[z]at this;have h0:0=x.length:=this;omega
 ·rw[contains_iff_mem.mpr z]at h2;cases h2
noncomputable def gm (x:Str):Bool:=gu x || match bE 42 x with
 |[_]=>qu x
 |[a,b]=>gu b&&qu a
 |_=>false
theorem Ay(h:gm x=true):∃t:Tr,fQ t/\x=cM t:=by
 unfold gm at h;cases hn:gu x with
 |true=>exact⟨.nm x,Nf hn,rfl⟩
 |false=>
  rw[hn,Bool.false_or]at h;split at h
  ·obtain⟨w,h1,h2⟩:=DV h;exact⟨.nu w,h1,h2⟩
  ·rename_i a b e;obtain⟨hb,ha⟩:=and_eq_true_iff.mp h;obtain⟨w,h1,h2⟩:=DV ha;refine⟨.nn w b,⟨h1,Nf hb⟩,?_⟩;rw[AW (by decide) e,h2];show _=cg w++Str.ofString "*"++b;rw[me]
  ·cases h
abbrev SG (c:iR) (R:List Dat->Addr->Bool):Prop:=∀x:Str,Tok x->gm x=false->R [.str x] c.nf=true
theorem HC(T:TX mg)(R:RX P w K mg){c:iR}(EK:EX K mg c){Rn:List Dat->Addr->Bool}(fT:Dn P w K mg base 3 "is_name" ["word"] 1 Fi)(hI:JN Fi)(kK:Dn P w K mg base 3 "read_number" ["word"] 1 Fn)(hN:Px Fn)(qO:DnX P w K mg base 3 "read_number" ["word"] 1 Rn)(Jm:SM c Rn)(U:FnAt K mg "read_term" (top 34) ["word"]):
  ∃R,DnX P w K mg base 4 "read_term" ["word"] 1 R/\SG c R:=by
 refine⟨_,qdnX ["word","pieces"] U λnd _ _ _ _ _ _ _ _ hr hx=>(qr_tl (aH (bM (aL fT hr (af (ae 0) ah))) (aw (aN (dZ (k:=0) (af (ae 0) (af (il R.on.choose_spec.mg R.on.choose_spec.tup) ah))))) aE)
  (qr_tl (az 1 nd (gM (ae 0) (af ar ah)))
  (qr_cons (qr_if (aX hr (aY T.len (af (ae 1) ah)) ai) (qr_one (qr_ret (qre_tup (qra_tl mJ (qra_hd (qre_call qO hr hx (af (ae 0) ah)) (hs:=bf)))))) qr_no) (aH (aX hr (aY T.len (af (ae 1) ah)) ai) (aw (aN (dZ (k:=0) (af mJ (af (aL kK hr (af (ae 0) ah)) ah (hs:=bf)))))) aE)
  (qr_cons (qr_if (cE (gG (dP (aY T.len (af (ae 1) ah)) ai) (fR (dM (bM (aL fT hr (af (aB (ae 1) ai) ah (hs:=aJ)))))))) (qr_one (qr_raise hx EK.nf (af ar ah))) qr_no) (aH (cE (gG (dP (aY T.len (af (ae 1) ah)) ai) (fR (dM (bM (aL fT hr (af (aB (ae 1) ai) ah (hs:=aJ)))))))) (aw bS) aE)
  (qr_hd (qr_ret (qre_tup (qra_tl (aB (ae 1) ai) (qra_hd (qre_call qO hr hx (af (aB (ae 1) ai) ah (hs:=aJ)) (he:=aJ)) (hs:=bf)) (hs:=aJ))))))))),?_⟩
 intro x hx hn;have e2:eO (.str x) [.str "*"]=some ((bE 42 x).map .str):=by
  rw[show("*" : Str)=⟨#[42]⟩from me];exact n8 (by decide) hx.l
 have ht:∀y∈bE 42 x,Tok y:=λy hy=>jh (by decide) hx hy;have i8:bE 42 x≠[]:=lJ (by decide);unfold gm at hn;obtain⟨oC,hn⟩:=Bool.or_eq_false_iff.mp hn;have i0:=hI x hx.l hx.a;rw[oC]at i0;have US:=Jm x hx;generalize bE 42 x=ys at *;refine(bI (au:=[~~~.str x,none]) (by
  generalize Dat.str x=dx at *;show eI _ _ _ [~~~dx,none]=_;dsimp![i0])).trans ?_
 refine(bI (au:=[~~~.str x,~~~.list (ys.map .str)]) (by
  generalize Dat.str x=dx at *;generalize ys.map Dat.str=si at *;dsimp![eD,e2])).trans ?_
 rcases ys with _|⟨a,_|⟨b,_|⟨y,t⟩⟩⟩
 ·exact absurd rfl i8
 ·have hR:=US hn;have lp:dC [.list [.str a]]=some (.int 1):=rfl;have q2:=bV 1 1;rw[decide_eq_true (by decide)]at q2;rw[map_cons,map_nil]at *;generalize Dat.str x=dx at *;generalize Dat.str a=da at *;refine g6 ((g7 (by dsimp![lp,q2])).trans (mG (d:=.none) (by dsimp![]) (gk (ds:=[dx]) (by dsimp![]) rfl hR)))
 ·have ta:=ht a mem_cons_self;have tb:=ht b (mem_cons_of_mem _ mem_cons_self);have hw:(gu b&&qu a)=false:=hn;have ib:=hI b tb.l tb.a;have lp:dC [.list [.str a,.str b]]=some (.int 2):=rfl;have pO:bu (.list [.str a,.str b]) (.int 0)=some (.str a):=rfl;have oB:bu (.list [.str a,.str b]) (.int 1)=some (.str b):=rfl;have g2:=cK 2 2;rw[decide_eq_false (by decide)]at g2;have q2:=bV 2 1;rw[decide_eq_false (by decide)]at q2;have hR:=Jm a ta;rw[map_cons,map_cons,map_nil]at *;generalize Dat.str x=dx at *;generalize Dat.str a=da at *;generalize Dat.str b=db at *;refine eY ((bI (au:=[~~~(dx),~~~.list [da,db]]) (by dsimp![lp,q2])).trans ?_);cases hb:gu b with
  |false=>
   rw[hb]at ib;refine g6 ((g7 ?_).trans (fJ rfl (by decide)));dsimp![lp,g2,oB,ib]
  |true=>
   rw[hb]at ib;rw[hb,Bool.true_and]at hw;refine eY ((bI (au:=[~~~(dx),~~~.list [da,db]]) (by dsimp![lp,g2,oB,ib])).trans ?_);exact mG (d:=db) (by dsimp![oB]) (gk (ds:=[da]) (by dsimp![pO]) rfl (hR hw))
 ·have lp:=C6 ((a::b::y::t).map .str);have g2:=cK (((a::b::y::t).map Dat.str).length:Int) 2;rw[decide_eq_true (by rw[length_map];simp only[length_cons];omega)]at g2;have q2:=bV (((a::b::y::t).map Dat.str).length:Int) 1;rw[decide_eq_false (by rw[length_map];simp only[length_cons];omega)]at q2;generalize Dat.str x=dx at *;generalize ((a::b::y::t).map Dat.str)=si at *;generalize (si.length:Int)=n at *;refine eY ((bI (au:=[~~~(dx),~~~.list si]) (by dsimp![lp,q2])).trans ?_);refine g6 ((g7 ?_).trans (fJ rfl (by decide)));dsimp![lp,g2]
noncomputable abbrev mY (x:Str):Str:=⟨(tl x).tail.toArray⟩
theorem tN(x:Str):tl (mY x)=(tl x).tail:=toList_toArray
theorem jS(h:(tl x).head?=some c):tl x=c::tl (mY x):=by
 rw[tN];cases e:tl x with
 |nil=>rw[e]at h;cases h
 |cons a r=>rw[e]at h;injection h with h;rw[h];rfl
theorem AH(h:Tok x):Tok (mY x):=by
 refine⟨?_,λd hd=>h.a d (List.mem_of_mem_tail (by rw[<- tN];exact hd))⟩;have h1:=h.l;rw[<- bH]at *;rw[tN,List.length_tail];omega
noncomputable def mq (x:Str):Bool:=if(tl x).head?=some 45 then gm (mY x)else gm x
theorem Dc(h:mq x=true):∃t:Sg,fQ t.2/\x=Tx.term (cm t):=by
 unfold mq at h;split at h
 ·rename_i hc;obtain⟨t,h1,h2⟩:=Ay h;refine⟨(true,t),h1,?_⟩;show x=Tx.zM++cM t;rw[<- h2];refine d6 ?_;rw[aR,jS hc];rfl
 ·obtain⟨t,h1,h2⟩:=Ay h;exact⟨(false,t),h1,h2⟩
abbrev Pu (c:iR) (R:List Dat->Addr->Bool):Prop:=∀x:Str,Tok x->mq x=false->R [.str x] c.nf=true
theorem Cj(T:TX mg)(R:RX P w K mg){c:iR}{Rt:List Dat->Addr->Bool}(mF:Dn P w K mg base 4 "read_term" ["word"] 1 Ft)(nJ:Dn P w K mg base 4 "minus" ["a","b"] 2 Fm)(uV:DnX P w K mg base 4 "read_term" ["word"] 1 Rt)(S7:SG c Rt)(U:FnAt K mg "read_signed_term" (top 36) ["word"]):
  ∃R,DnX P w K mg base 5 "read_signed_term" ["word"] 1 R/\Pu c R:=by
 refine⟨_,qdnX ["word","term"] U λnd _ _ _ _ _ _ _ _ hr hx=>(qr_cons (qr_if (bM (g8 (ae 0) (af ar ah))) (qr_hd (qr_set 1 nd (qre_call uV hr hx (af (br (ae 0) (aV ai) bj) ah (hs:=aJ)) (he:=aJ)))) qr_no) (aH (bM (g8 (ae 0) (af ar ah))) (ao (az 1 nd (aL mF hr (af (br (ae 0) (aV ai) bj) ah (hs:=aJ))))
  (aw (aN (dZ (k:=0) (af (aB (ae 1) ai) (af (aL nJ hr (af (il R.zr.choose_spec.mg R.zr.choose_spec.tup) (af (aB (ae 1) ai) ah (hs:=aJ)))) ah (hs:=bf)) (hs:=aJ)))))) aE)
  (qr_hd (qr_ret (qre_call uV hr hx (af (ae 0) ah))))),?_⟩
 intro x hx hn;unfold mq at hn;have s1:fA (.str x) [.str "-"]=some (.bool ((tl x).head? == some 45)):=by
  rw[show("-" : Str)=⟨#[45]⟩from su,j4]
 split at hn
 ·rename_i hc;have s2:=yn (jS hc) hx.l;rw[hc]at s1;have hR:=S7 (mY x) (AH hx) hn;have s1:fA (.str x) [.str "-"]=some (.bool true):=s1;generalize Dat.str x=dx at *;generalize Dat.str (mY x)=dy at *;refine g6 ((g7 ?_).trans (gk (ds:=[dy]) ?_ rfl hR))
  ·show _=some true;dsimp![bY,s1]
  ·dsimp![bY,gD,dI,eE,kg,s2]
 ·rename_i hc;have hR:=S7 x hx hn;rw[show((tl x).head? == some 45)=false by simpa using hc]at s1;generalize Dat.str x=dx at *;refine eY ((bI (au:=[~~~(dx),none]) (by
   show eI _ _ _ [~~~(dx),none]=_;dsimp![s1])).trans (gk (ds:=[dx]) (by dsimp![]) rfl hR))
noncomputable abbrev ip (x:Str):Str:=Txt.replace x ⟨#[45]⟩ ⟨#[43,45]⟩
noncomputable def kQ (x:Str):List Str:=if(tl x).head?=some 45 then(bE 43 (ip x)).drop 1 else bE 43 (ip x)
noncomputable def fw (x:Str):Bool:=decide (x.length<=80)&&(kQ x).all mq
theorem Dh:∀l:List Nat,(∀c∈l,c<128)->∀c∈Tx.rm l,c<128
 |[],_,c,h=>by cases h
 |a::l,hl,c,h=>by
  have h:c∈(if a=45 then[43,45]else[a])++Tx.rm l:=h;rcases mem_append.mp h with h|h
  ·split at h
   ·rcases mem_cons.mp h with h|h
    ·omega
    ·have:=mem_singleton.mp h;omega
   ·rw[mem_singleton.mp h];exact hl a mem_cons_self
  ·exact Dh l (λd hd=>hl d (mem_cons_of_mem _ hd)) c h
theorem Kx(h:x.length<=80)(ha:vd x):Tok (ip x):=by
 have e:tl (ip x)=Tx.rm (tl x):=Tx.lH _;refine⟨?_,?_⟩
 ·have:=yw (tl x);rw[<- e,bH,bH]at this;omega
 ·intro c hc;rw[e]at hc;exact Dh _ ha c hc
theorem mL(hc:c<256)(x:Str):(bE c x).length<=x.length+1:=by
 have:∀l:List Nat,(Tx.bB c l).length<=l.length+1:=by
  intro l;induction l with
  |nil=>exact le_refl _
  |cons a l ih=>
   unfold Tx.bB;split
   ·rw[length_cons,length_cons];omega
   ·split
    ·show 1<=_;omega
    ·rename_i e;rw[e,length_cons]at ih;rw[length_cons,length_cons];omega
 have h:=this (tl x);rw[<- cU hc x,length_map,bH]at h;exact h
theorem zT{Fs:List Dat->Option Dat}{Rs:List Dat->Addr->Bool}{c:iR}(hS:A9 Fs)(hX:Pu c Rs):∀ys:List Str,(∀y∈ys,Tok y)->ys.all mq=false->xCompL (aName 0) cQ (cu 1 Fs (ax (aj 0) aK)) (xFn 1 Rs c.nf (ax (aj 0) aK)) [none] (ys.map .str)=true
 |[],_,h=>by cases h
 |y::ys,ht,h=>by
  have ty:=ht y mem_cons_self;rw[map_cons];unfold xCompL;show(xFn 1 Rs c.nf (ax (aj 0) aK) [some (.str y)] || ((cu 1 Fs (ax (aj 0) aK) [some (.str y)]).isSome&&xCompL _ _ _ _ [none] (ys.map .str)))=true;cases hy:mq y with
  |false=>
   have:xFn 1 Rs c.nf (ax (aj 0) aK) [some (.str y)]=true:=by
    have hR:=hX y ty hy;show(match ax (aj 0) aK [some (Dat.str y)]with|some ds=>decide (ds.length=1)&&Rs ds c.nf|none=>false)=true
    show(decide (1=1)&&Rs [.str y] c.nf)=true;rw[hR];rfl
   rw[this];rfl
  |true=>
   rw[all_cons,hy,Bool.true_and]at h;rw[zT hS hX ys (λz hz=>ht z (mem_cons_of_mem _ hz)) h];obtain⟨t,h1,h2⟩:=Dc hy;have e:=hS t h1;rw[<- h2]at e;have e2:cu 1 Fs (ax (aj 0) aK) [some (.str y)]=some (bK (cN t)):=by
    generalize Dat.str y=dy at *;dsimp![e]
   rw[e2,isSome_some,Bool.true_and,Bool.or_true]
abbrev SI (c:iR) (R:List Dat->Addr->Bool):Prop:=∀x:Str,Tok x->fw x=false->R [.str x] c.nf=true
theorem Lh(T:TX mg)(R:RX P w K mg){c:iR}(EK:EX K mg c){Rs:List Dat->Addr->Bool}(jz:Dn P w K mg base 5 "read_signed_term" ["word"] 1 Fs)(hS:A9 Fs)(rT:DnX P w K mg base 5 "read_signed_term" ["word"] 1 Rs)(Jl:Pu c Rs)(U:FnAt K mg "read_sum" (top 37) ["word"]):
  ∃R,DnXT P w K mg base 6 "read_sum" ["word"] 1 R/\SI c R:=by
 refine⟨_,qdnXT ["word","pieces"] U λnd _ _ _ _ _ _ _ _ hr hx=>(tr_cons (tr_of (qr_if (dP (aY T.len (af (ae 0) ah)) (eT R.ls)) (qr_one (qr_raise hx EK.nf (af ar ah))) qr_no)) (rq (aH (dP (aY T.len (af (ae 0) ah)) (eT R.ls)) (aw bS) aE))
  (tr_tl (oY 1 nd (wk (yA (ae 0)) (af ar ah)))
  (trs_of (qr_tl (aH (bM (g8 (ae 0) (af ar ah))) (aw (az 1 nd (iC (ae 1) (aV ai) bj))) aE)
  (qr_hd (qr_ret (qre_comp hx (eW (N':=["piece"])) (ae 1) (λ_ _ _ _=>(bp 0 (show(["piece"]:List Str).Nodup by decide +kernel))) (λ_ _ _ _=>dY) (λ_ _ _ _=>(aL jz hr (af (ae 0) ah))) (λ_ _ _ _ hp hA=>qre_callP rT hr hp hA (af (ae 0) ah)) (cY rfl)))))))),?_⟩
 intro x hx hn;unfold fw at hn;have hl:=len_str (x:=x) hx.l;have g1:=cK (x.length:Int) 80;by_cases pP:x.length<=80
 ·rw[decide_eq_false (by omega)]at g1;rw[decide_eq_true pP,Bool.true_and]at hn;have tp:=Kx pP hx.a;have s1:fA (.str x) [.str "-"]=some (.bool ((tl x).head? == some 45)):=by
   rw[show("-" : Str)=⟨#[45]⟩from su,j4]
  have r1:xC "-" "+-" (.str x)=some (.str (ip x)):=by
   rw[show("-" : Str)=⟨#[45]⟩from su,show("+-" : Str)=⟨#[43,45]⟩from P4];refine if_pos ?_;show _+(_+1)*2<=16777216;omega
  have e3:eO (.str (ip x)) [.str "+"]=some ((bE 43 (ip x)).map .str):=by
   rw[show("+" : Str)=⟨#[43]⟩from vR];exact n8 (by decide) tp.l
  have hm:∀y∈kQ x,Tok y:=λy hy=>by
   unfold kQ at hy;split at hy
   ·exact jh (by decide) tp (List.mem_of_mem_drop hy)
   ·exact jh (by decide) tp hy
  have bW:(kQ x).length<=4001:=by
   have h1:=mL (c:=43) (by decide) (ip x);have h2:=tp.l;unfold kQ;split
   ·rw[length_drop];omega
   ·omega
  have key:=zT hS Jl (kQ x) hm hn;have hp1:1<=(bE 43 (ip x)).length:=by
   have:=lJ (x:=ip x) (c:=43) (by decide);cases e:bE 43 (ip x)with
   |nil=>exact absurd e this
   |cons a r=>exact succ_pos _
  have sl:rW (.list ((bE 43 (ip x)).map .str)) (some 1) none=some (.list (((bE 43 (ip x)).drop 1).map .str)):=by
   show some (Dat.list (L3.cutD ((bE 43 (ip x)).map Dat.str) (some ((1:Nat):Int)) none))=_;unfold L3.cutD;rw[HT.rk,HT.oU];have h1:min 1 ((bE 43 (ip x)).map Dat.str).length=1:=by rw[length_map];omega
   rw[h1];show some (Dat.list ((((bE 43 (ip x)).map Dat.str).drop 1).take _))=_;rw[take_of_length_le (by rw[length_drop];omega),List.map_drop]
  have fin:xE (xComp [none] (aName 0) cQ (cu 1 Fs (ax (aj 0) aK)) (xFn 1 Rs c.nf (ax (aj 0) aK)) (aj 1)) [~~~.str x,~~~.list ((kQ x).map .str)]=true:=by
   show(decide (((kQ x).map Dat.str).length<sizeLine)&&xCompL _ _ _ _ [none] ((kQ x).map .str))=true;rw[key,decide_eq_true (by rw[length_map];have:4002<=sizeLine:=(by rw[sizeLine_eq];decide);omega)];rfl
  unfold kQ at fin;generalize bE 43 (ip x)=ps at *;clear key hm bW hn;refine eY ((bI (au:=[~~~.str x,none]) (by
   generalize (x.length:Int)=n at *;generalize Dat.str x=dx at *;show eI _ _ _ [~~~(dx),none]=_;dsimp![hl,g1])).trans ?_)
  refine(bI (au:=[~~~.str x,~~~.list (ps.map .str)]) (by
   generalize Dat.str (ip x)=XM at *;generalize Dat.str x=dx at *;dsimp![eD,r1,e3])).trans ?_
  by_cases hc:(tl x).head?=some 45
  ·rw[if_pos hc]at fin;rw[hc]at s1;have s1:fA (.str x) [.str "-"]=some (.bool true):=s1;refine(bI (au:=[~~~.str x,~~~.list ((ps.drop 1).map .str)]) (by
    generalize Dat.str x=dx at *;generalize Dat.list (ps.map .str)=dy at *;generalize Dat.list ((ps.drop 1).map .str)=fX at *;dsimp![s1,o9,dI,eE,kg,sl])).trans fin
  ·rw[if_neg hc]at fin;rw[show((tl x).head? == some 45)=false by simpa using hc]at s1;refine(bI (au:=[~~~.str x,~~~.list (ps.map .str)]) (by
    generalize Dat.str x=dx at *;generalize Dat.list (ps.map .str)=dy at *;dsimp![s1])).trans fin
 ·rw[decide_eq_true (by omega)]at g1;generalize (x.length:Int)=n at *;generalize Dat.str x=dx at *;refine g6 ((g7 ?_).trans (fJ rfl (by decide)));dsimp![bY,hl,g1]
theorem Fx(h:vd x):PyData.strOk x=true:=by
 show x.cps.all (· < 1114112)=true;rw[<- Array.all_toList,all_eq_true];intro c hc;have:=h c hc;exact decide_eq_true (by omega)
theorem QD(x:Str):inD (.str "*") (.str x)=some (.bool (decide (42∈tl x))):=by
 show some (Dat.bool _)=_;rw[show("*" : Str)=⟨#[42]⟩from me,StrLaws.found_one]
theorem KQ(ys:List Str)(h:∀y∈ys,PyData.strOk y=true):sX (.list (ys.map .str)) (.list [])=some (.bool (!ys.isEmpty)):=by
 have:=vO ys h;unfold jN at this;unfold sX;obtain⟨k,e1,e2⟩:=map_eq_some_iff.mp this;rw[e1];injection e2 with e2;rw[map_some,e2]
theorem ti{α:Type}(p:α->Bool):∀l:List α,(l.filter λy=>!p y).isEmpty=l.all p
 |[]=>rfl
 |a::l=>by
  rw[all_cons,List.filter_cons];cases hp:p a with
  |true=>rw[Bool.true_and,<- ti p l];rfl
  |false=>rfl
theorem M1(h:42∉tl x):gm x=(gu x || qu x):=by
 have e:bE 42 x=[x]:=dO (by rw[cU (by decide),Tx.fB 42 _ h];rfl);unfold gm;rw[e]
theorem M3{A B:Str}(h:tl x=tl A++42::tl B)(ha:42∉tl A):gm x=(gu B&&qu A):=by
 have hx:gu x=false:=uk (c:=42) (by rw[h];exact mem_append_right _ mem_cons_self) rfl;have e:(bE 42 x).map tl=tl A::(bE 42 B).map tl:=by
  rw[cU (by decide),h,Tx.gF 42 _ _ ha,cU (by decide)]
 have e:bE 42 x=A::bE 42 B:=dO (by rw[e];rfl);unfold gm;rw[hx,Bool.false_or,e];by_cases hb:42∈tl B
 ·rw[uk hb rfl,Bool.false_and];cases e2:bE 42 B with
  |nil=>exact absurd e2 (lJ (by decide))
  |cons p t=>
   cases t with
   |nil=>
    have:=AX (by decide) e2;have h2:=cU (c:=42) (by decide) B;rw[e2]at h2;obtain⟨a,r,h4,h5⟩:=List.eq_append_cons_of_mem hb;rw[h4,Tx.gF 42 _ _ h5]at h2;injection h2 with _ h2;exact absurd h2.symm (Tx.iO 42 _)
   |cons q t=>rfl
 ·have e2:bE 42 B=[B]:=dO (by rw[cU (by decide),Tx.fB 42 _ hb];rfl);rw[e2]
abbrev Tc (F:List Dat->Option Dat):Prop:=∀x:Str,Tok x->F [.str x]=some (.bool (gm x))
theorem Cn(T:TX mg)(R:RX P w K mg)(ig:Dn P w K mg base 2 "_law_good_name" ["word"] 1 Fn)(hN:JO Fn)(xu:Dn P w K mg base 2 "_law_good_whole" ["word"] 1 Fw)(hW:Tb Fw)(U:FnAt K mg "_law_good_term" (top 58) ["term"]):
  ∃F,Dn P w K mg base 3 "_law_good_term" ["term"] 1 F/\Tc F:=by
 refine⟨_,ek ["term","number","place","some"] U λnd _ _ _ _ _ _ _ hr=>(ao (aH (bM (aL ig hr (af (ae 0) ah))) (aw (aN jC)) aE)
  (ao (az 1 nd (ae 0))
  (ao (aH (rB ar (ae 0)) (ao (az 2 nd (qpf_indexT (ae 0) (af ar ah)))
  (ao (aH (dM (bM (aL ig hr (af (br (ae 0) (aV (fm (ae 2) ai)) bj) ah (hs:=aJ))))) (aw (aN jC)) aE)
  (aw (az 1 nd (br (ae 0) bj (aV (ae 2))))))) aE)
  (ao (az 3 nd (gM (ae 1) (af ar ah)))
  (ao (aH (cE (gG (dP (aY T.len (af (ae 3) ah)) ai) (fR (sV hr (dj (fK rfl (eW (N':=["one"])) (ae 3) (λ_ _ _ _=>(bp 0 (show(["one"]:List Str).Nodup by decide +kernel))) (λ_ _ _ _=>(gK (dM (bM (aL xu hr (af (ae 0) ah)))))) (λ_ _ _ _=>(ae 0)) (cY rfl))) (cq ah))))) (aw (aN jC)) aE)
  (aw (aN (Dq (yG hr (aY T.len (af (ae 3) ah)) ai) (rD (Dt hr (aB (ae 3) ai) ar)))))))))),?_⟩
 intro x hx;have z0:0<=sizeLine:=zero_le _;have tail:∀(N:Str) (pl:Option Slot),Tok N->bG (cW 3 (fL (eD (aj 1) (ax (fC (.str (Str.ofString "/"))) aK))))
   (bG (eI (pJ (aZ (L3.f2 wR (dJ dC (ax (aj 3) aK)) (fC (.int 2)))) (aZ (L3.f2 sX (fL (d7 [none] (aName 0) (gZ (ja (cu 1 Fw (ax (aj 0) aK)))) (aj 0) (aj 3))) (lb aK)))) (iW (fC (.bool false))) dX)
   (iW (Jr (L3.f2 d8 (dJ dC (ax (aj 3) aK)) (fC (.int 1))) (L3.f2 gi (L3.f2 bu (aj 3) (fC (.int 1))) (fC (.str (Str.ofString "0"))))))) [~~~.str x,~~~.str N,pl,none]=some (.rt (.bool (qu N))):=λN pl O9=>by
  have e2:eO (.str N) [.str (Str.ofString "/")]=some ((bE 47 N).map .str):=by
   rw[show(Str.ofString "/" : Str)=⟨#[47]⟩from vQ];exact n8 (by decide) O9.l
  have ht:∀y∈bE 47 N,Tok y:=λy hy=>jh (by decide) O9 hy;have i8:bE 47 N≠[]:=lJ (by decide);have hlen:=mL (c:=47) (by decide) N;have hl4:=O9.l;unfold qu;generalize bE 47 N=ys at *;have ec:cL (aName 0) (gZ (ja (cu 1 Fw (ax (aj 0) aK)))) (aj 0) [none] (ys.map Dat.str)=some ((ys.filter λy=>!f6 y).map Dat.str):=
   gQ Dat.str Dat.str (λy=>!f6 y) ys λy hy=>⟨[(0,.str y)],rfl,by
    have e:=hW y (ht y hy).l (ht y hy).a;generalize f6 y=b at *;generalize Dat.str y=dy at *;cases b<;>(dsimp![e]<;>rfl),λ_=>rfl⟩
  have hz:(ys.map Dat.str).length<sizeLine:=by rw[length_map,sizeLine_eq];omega
  have ef:∀q,fL (d7 [none] (aName 0) (gZ (ja (cu 1 Fw (ax (aj 0) aK)))) (aj 0) (aj 3)) [some (.str x),some (.str N),q,some (.list (ys.map .str))]=some (.list ((ys.filter λy=>!f6 y).map Dat.str)):=λq=>iG (d:=.list (ys.map .str)) (ds:=ys.map .str) rfl rfl hz ec;have ne:=KQ (ys.filter λy=>!f6 y) (λy hy=>Fx (ht y (mem_filter.mp hy).1).a);clear ec hz;rw[aG (au:=[~~~.str x,~~~.str N,pl,~~~.list (ys.map .str)]) (by
   clear ef ne;generalize Dat.str N=dN at *;generalize Dat.str x=dx at *;generalize ys.map Dat.str=si at *;dsimp![eD,e2])]
  generalize fL (d7 [none] (aName 0) (gZ (ja (cu 1 Fw (ax (aj 0) aK)))) (aj 0) (aj 3))=fx at *;rw[ti]at ne;generalize Dat.list ((ys.filter λy=>!f6 y).map Dat.str)=OR at *;rcases ys with _|⟨a,_|⟨b,_|⟨y,t⟩⟩⟩
  ·exact absurd rfl i8
  ·have lp:dC [.list ([a].map .str)]=some (.int 1):=rfl;have g2:=cK 1 2;rw[decide_eq_false (by decide)]at g2;have q1:=bV 1 1;rw[decide_eq_true (by decide)]at q1;show _=some (Fl.rt (.bool (f6 a)));rw[show[a].all f6=f6 a from Bool.and_true _]at ne;generalize Dat.list ([a].map Dat.str)=si at *;generalize f6 a=b at *;generalize Dat.str N=dN at *;generalize Dat.str x=dx at *;cases b<;>(dsimp![lp,g2,q1,ef,ne,z0]<;>rfl)
  ·have lp:dC [.list ([a,b].map .str)]=some (.int 2):=rfl;have oB:bu (.list ([a,b].map .str)) (.int 1)=some (.str b):=rfl;have g2:=cK 2 2;rw[decide_eq_false (by decide)]at g2;have q1:=bV 2 1;rw[decide_eq_false (by decide)]at q1;have n0:gi (.str b) (.str (Str.ofString "0"))=some (.bool (!decide (b=("0" : Str)))):=pA b ("0" : Str);show _=some (Fl.rt (.bool (f6 a&&(f6 b&&!decide (b=("0" : Str))))));rw[show[a,b].all f6=(f6 a&&f6 b) by simp]at ne;generalize Dat.list ([a,b].map Dat.str)=si at *;generalize f6 a=ba at *;generalize f6 b=bb at *;generalize decide (b=("0" : Str))=bz at *;generalize Dat.str b=db at *;generalize Dat.str N=dN at *;generalize Dat.str x=dx at *;cases ba<;>cases bb<;>cases bz<;>(dsimp![lp,g2,q1,ef,ne,oB,n0,z0,Bool.and_true,Bool.true_and,Bool.and_false,Bool.false_and]<;>rfl)
  ·have lp:=C6 ((a::b::y::t).map .str);have g2:=cK (((a::b::y::t).map Dat.str).length:Int) 2;rw[decide_eq_true (by rw[length_map];simp only[length_cons];omega)]at g2;show _=some (Fl.rt (.bool false));clear ef ne;generalize ((((a::b::y::t).map Dat.str).length:Nat):Int)=n at *;generalize Dat.list ((a::b::y::t).map Dat.str)=si at *;generalize Dat.str N=dN at *;generalize Dat.str x=dx at *;refine d9 ?_;dsimp![lp,g2]
 refine bQ ?_;show bG _ _ [~~~.str x,none,none,none]=_;have i0:=hN x hx.l hx.a;cases iP:gu x with
 |true=>
  rw[iP]at i0;rw[show gm x=true by unfold gm;rw[iP];rfl];clear tail;generalize Dat.str x=dx at *;refine d9 ?_;dsimp![i0]
 |false=>
  rw[iP]at i0;rw[aG (au:=[~~~.str x,none,none,none]) (by
   clear tail;generalize Dat.str x=dx at *;dsimp![i0])]
  rw[aG (au:=[~~~.str x,~~~.str x,none,none]) (by
   clear tail;generalize Dat.str x=dx at *;dsimp![])]
  have n0:=QD x;by_cases gw:42∈tl x
  ·rw[decide_eq_true gw]at n0;obtain⟨a,r,h4,h5⟩:=List.eq_append_cons_of_mem gw;have hla:x.length=a.length+(r.length+1):=by rw[<- bH,h4,length_append,length_cons]
   obtain⟨A,eA,tA⟩:=nN (x:=x) (j:=a.length) (by omega) hx.l;obtain⟨B,eB,tB⟩:=jV (x:=x) (j:=a.length+1) (by omega) hx.l;have tA:tl A=a:=by rw[tA,h4,List.take_left]
   have tB:tl B=r:=by
    rw[tB,h4,show a.length+1=(a++[42]).length by rw[length_append];rfl,show a++42::r=(a++[42])++r by rw[append_assoc];rfl,drop_left]
   have Vn:Tok A:=⟨by have:=hx.l;rw[<- bH,tA];omega,λd hd=>hx.a d (by rw[h4];rw[tA]at hd;exact mem_append_left _ hd)⟩;have Rh:Tok B:=⟨by have:=hx.l;rw[<- bH,tB];omega,λd hd=>hx.a d (by rw[h4];rw[tB]at hd;exact mem_append_right _ (mem_cons_of_mem _ hd))⟩;have id:indexTD (.str x) [.str (Str.ofString "*")]=some (.int (a.length:Int)):=by
    unfold indexTD;rw[show(Str.ofString "*" : Str)=⟨#[42]⟩from me];dsimp only;rw[Tx.occ_first h4 h5]
   have ad:mf (.int (a.length:Int)) (.int 1)=some (.int ((a.length+1:Nat):Int)):=gz _ _;have iB:=hN B Rh.l Rh.a;rw[M3 (A:=A) (B:=B) (by rw[h4,tA,tB]) (by rw[tA];exact h5)];have LZ:=tail A (some (.ag (.int (a.length:Int)))) Vn;cases hb:gu B with
   |false=>
    rw[hb]at iB;rw[Bool.false_and];clear tail LZ;generalize ((a.length+1:Nat):Int)=n1 at *;generalize (a.length:Int)=n at *;generalize Dat.str A=dA at *;generalize Dat.str B=dB at *;generalize Dat.str x=dx at *;refine d9 ?_;dsimp![gD,dI,eE,kg,n0,id,ad,eB,iB]
   |true=>
    rw[hb]at iB;rw[Bool.true_and];rw[aG (au:=[~~~.str x,~~~.str A,~~~.int (a.length:Int),none]) (by
     clear tail LZ;generalize ((a.length+1:Nat):Int)=n1 at *;generalize (a.length:Int)=n at *;generalize Dat.str A=dA at *;generalize Dat.str B=dB at *;generalize Dat.str x=dx at *;dsimp![gD,dI,eE,kg,n0,id,ad,eA,eB,iB])]
    exact LZ
  ·rw[decide_eq_false gw]at n0;rw[M1 gw,iP,Bool.false_or];rw[aG (au:=[~~~.str x,~~~.str x,none,none]) (by
    clear tail;generalize Dat.str x=dx at *;dsimp![n0])]
   exact tail x none hx
theorem ix(c:Nat):∀(l p:List Nat),p∈Tx.bB c l->c∉p
 |[],p,h=>by
  have:p=[]:=by simpa [Tx.bB]using h
  subst this;simp
 |a::l,p,h=>by
  unfold Tx.bB at h;split at h
  ·rcases mem_cons.mp h with rfl|h
   ·simp
   ·exact ix c l p h
  ·rename_i S6;split at h
   ·have:p=[a]:=by simpa using h
    subst this;intro z;exact S6 (mem_singleton.mp z).symm
   ·rename_i hh t e;rcases mem_cons.mp h with rfl|h
    ·intro z;rcases mem_cons.mp z with z|z
     ·exact S6 z.symm
     ·exact ix c l hh (by rw[e];exact mem_cons_self) z
    ·exact ix c l p (by rw[e];exact mem_cons_of_mem _ h)
noncomputable abbrev sw (c:Nat):Nat:=if c=45 then 43 else c
theorem vj{l:List Nat}(h:45∉l):l.map sw=l:=by
 have:l.map sw=l.map id:=map_congr_left λc hc=>by
  show(if c=45 then 43 else c)=c;rw[if_neg λz=>h (by rw[<- z];exact hc)]
 rw[this,List.map_id]
theorem L4:∀(n:Nat) (l:List Nat) (ps:List Str),l.length<=n->ps.map tl=Tx.bB 45 l->tl (Str.join ⟨#[43]⟩ ps)=l.map sw:=by
 intro n;induction n with
 |zero=>
  intro l ps hn h;have:l=[]:=length_eq_zero_iff.mp (by omega);subst this;cases ps with
  |nil=>exact absurd h.symm (Tx.iO 45 _)
  |cons p t=>
   cases t with
   |nil=>
    rw[show Tx.bB 45 []=[[]]from rfl]at h;injection h with h _
   |cons q r=>
    rw[show Tx.bB 45 []=[[]]from rfl]at h;injection h with _ h;cases h
 |succ n ih=>
  intro l ps hn h;cases ps with
  |nil=>exact absurd h.symm (Tx.iO 45 _)
  |cons p t=>
   cases t with
   |nil=>
    have e:=iS h.symm;have hf:=ix 45 l (tl p) (by rw[<- h];exact mem_cons_self);show tl p=_;rw[<- e]at hf ⊢;exact(vj hf).symm
   |cons q r=>
    obtain⟨m,e1,e2⟩:=mH h.symm;have hf:=ix 45 l (tl p) (by rw[<- h];exact mem_cons_self);have:=ih m (q::r) (by rw[e1,length_append,length_cons]at hn;omega) e2.symm;show tl (p++⟨#[43]⟩++Str.join ⟨#[43]⟩ (q::r))=_;rw[aR,aR,this,e1,map_append,vj hf,map_cons,append_assoc];rfl
noncomputable abbrev pZ (y:Str):Str:=⟨((tl y).map sw).toArray⟩
theorem om(y:Str):tl (pZ y)=(tl y).map sw:=toList_toArray
theorem Hi(y:Str):Txt.join (Str.ofString "+") (bE 45 y)=pZ y:=d6 (by
 rw[om];show tl (Builtin.Str.glued (Str.ofString "+") (bE 45 y))=_;rw[PySem.StrLaws.glued_eq_join,show(Str.ofString "+" : Str)=⟨#[43]⟩from vR];exact L4 _ (tl y) (bE 45 y) (le_refl _) (cU (by decide) y))
theorem oq(h:Tok y):Tok (pZ y):=by
 refine⟨?_,λd hd=>?_⟩
 ·rw[<- bH,om,length_map,bH];exact h.l
 ·rw[om]at hd;obtain⟨c,hc,rfl⟩:=mem_map.mp hd;have:=h.a c hc;show(if c=45 then 43 else c)<128;split<;>omega
noncomputable def ik (x:Str):Str:=if(tl x).head?=some 45 then mY x else x
theorem oi(h:Tok x):Tok (ik x):=by
 unfold ik;split
 ·exact AH h
 ·exact h
noncomputable def cC (x:Str):List Str:=bE 43 (pZ (ik x))
theorem zw(hx:x.length<=4000):∃y,nZ (.str x) none (some 1)=some (.str y)/\d8 (.str y) (.str (Str.ofString "-"))=some (.bool ((tl x).head? == some 45))/\d8 (.str y) (.str (Str.ofString "+"))=some (.bool ((tl x).head? == some 43)):=by
 cases e:tl x with
 |nil=>
  have:x=⟨#[]⟩:=d6 (by rw[e]);subst this;exact⟨⟨#[]⟩,(by unfold nZ;dsimp only;rw[if_pos (sz hx),show Txt.slice ⟨#[]⟩ none (some 1)=⟨#[]⟩ by decide +kernel]),by rw[iI,show decide ((⟨#[]⟩:Str)=Str.ofString "-")=false by decide +kernel];rfl,by rw[iI,show decide ((⟨#[]⟩:Str)=Str.ofString "+")=false by decide +kernel];rfl⟩
 |cons c r=>
  have h1:1<=x.length:=by rw[<- bH,e];exact succ_pos _
  obtain⟨y,e1,e2⟩:=nN (x:=x) (j:=1) h1 hx;have hy:y=⟨#[c]⟩:=d6 (by rw[e2,e];rfl);subst hy;have key:∀d:Nat,decide ((⟨#[c]⟩:Str)=⟨#[d]⟩)=(some c==some d):=λd=>by
   by_cases hh:c=d
   ·subst hh;rw[decide_eq_true rfl];simp
   ·rw[decide_eq_false (λz=>hh (by injection z with z;injection z with z;injection z)),show(some c==some d)=false by simpa using hh]
  refine⟨⟨#[c]⟩,e1,?_,?_⟩
  ·rw[iI,show(Str.ofString "-" : Str)=⟨#[45]⟩from su,key];rfl
  ·rw[iI,show(Str.ofString "+" : Str)=⟨#[43]⟩from vR,key];rfl
abbrev PH (F:List Dat->Option Dat):Prop:=∀x:Str,Tok x->F [.str x]=some (.list ((cC x).map .str))
theorem HI(T:TX mg)(U:FnAt K mg "_law_terms" (top 59) ["word"]):
  ∃F,Dn P w K mg base 1 "_law_terms" ["word"] 1 F/\PH F:=by
 refine⟨_,ek ["word"] U λnd _ _ _ _ _ _ _ hr=>(ao (aH (aX hr (br (ae 0) bj (aV ai)) ar) (aw (az 0 nd (br (ae 0) (aV ai) bj))) aE)
  (aw (aN (gM (pe ar (af (gM (ae 0) (af ar ah)) ah (hs:=bf))) (af ar ah))))),?_⟩
 intro x hx;obtain⟨y,e1,e2,_⟩:=zw hx.l;have hu:=oi hx;have d1:eO (.str (ik x)) [.str (Str.ofString "-")]=some ((bE 45 (ik x)).map .str):=by
  rw[show(Str.ofString "-" : Str)=⟨#[45]⟩from su];exact n8 (by decide) hu.l
 have d2:eO (.str (pZ (ik x))) [.str (Str.ofString "+")]=some ((cC x).map .str):=by
  rw[show(Str.ofString "+" : Str)=⟨#[43]⟩from vR];exact n8 (by decide) (oq hu).l
 have jn:mB (.str (Str.ofString "+")) [.list ((bE 45 (ik x)).map .str)]=some (.str (pZ (ik x))):=by
  show(kn ((bE 45 (ik x)).map Dat.str)).bind _=_;rw[strs_map,Option.bind_some,Hi];refine if_pos ?_;have h1:=mL (c:=45) (by decide) (ik x);have h2:=CV (λz:Str=>z.length) 4000 (bE 45 (ik x)) λz hz=>(jh (by decide) hu hz).l;have h3:=hu.l;have h4:(Str.ofString "+").length=1:=by rw[lY];rfl
  rw[h4];have:4000*(bE 45 (ik x)).length<=4000*4001:=mul_le_mul_left _ (by omega);omega
 refine bQ ?_;show bG _ _ [~~~.str x]=_;rw[aG (au:=[~~~.str (ik x)]) (by
  unfold ik;by_cases hc:(tl x).head?=some 45
  ·rw[if_pos hc];rw[hc]at e2;have e2:d8 (.str y) (.str (Str.ofString "-"))=some (.bool true):=e2;have s2:=yn (jS hc) hx.l;clear d1 d2 jn;generalize Dat.str (mY x)=dr at *;generalize Dat.str x=dx at *;generalize Dat.str y=dy at *;dsimp![gD,dI,eE,kg,e1,e2,s2]
  ·rw[if_neg hc];rw[show((tl x).head? == some 45)=false by simpa using hc]at e2;clear d1 d2 jn;generalize Dat.str x=dx at *;generalize Dat.str y=dy at *;dsimp![gD,dI,eE,kg,e1,e2])]
 clear e1 e2;generalize (cC x).map Dat.str=dl at *;generalize (bE 45 (ik x)).map Dat.str=dp at *;generalize Dat.str (pZ (ik x))=ds at *;generalize Dat.str (ik x)=du at *;have RM:∀fs ρ,fs ρ=some [Dat.list dp]->fP mB (fC (.str (Str.ofString "+"))) fs ρ=some ds:=λfs ρ h=>by
  unfold fP;rw[h];exact jn
 refine gj ?_;show fL (eD (fP mB (fC (.str (Str.ofString "+"))) (ax (fL (eD (aj 0) (ax (fC (.str (Str.ofString "-"))) aK))) aK)) (ax (fC (.str (Str.ofString "+"))) aK)) [some du]=_;have h1:ax (fL (eD (aj 0) (ax (fC (.str (Str.ofString "-"))) aK))) aK [some du]=some [Dat.list dp]:=by dsimp![eD,d1]
 have h2:=RM _ _ h1;clear RM jn h1;generalize fP mB (fC (.str (Str.ofString "+"))) (ax (fL (eD (aj 0) (ax (fC (.str (Str.ofString "-"))) aK))) aK)=fj at *;dsimp![eD,h2,d2]
theorem K7(c:Nat):∀(n:Nat) (l l':List Nat),l.length<=n->Tx.bB c l=Tx.bB c l'->l=l':=by
 intro n;induction n with
 |zero=>
  intro l l' hn h;have:l=[]:=length_eq_zero_iff.mp (by omega);subst this;rw[show Tx.bB c []=[[]]from rfl]at h;exact(iS h.symm).symm
 |succ n ih=>
  intro l l' hn h;cases e:Tx.bB c l with
  |nil=>exact absurd e (Tx.iO c _)
  |cons p t=>
   rw[e]at h;cases t with
   |nil=>rw[iS e,iS h.symm]
   |cons q r=>
    obtain⟨m,h1,h2⟩:=mH e;obtain⟨m',h3,h4⟩:=mH h.symm;have:m=m':=ih m m' (by rw[h1,length_append,length_cons]at hn;omega) (by rw[h2,h4]);rw[h1,h3,this]
theorem hU(a:Nat)(l:List Nat):Tx.rm (a::l)=(if a=45 then[43,45]else[a])++Tx.rm l:=rfl
theorem BY:∀l:List Nat,(Tx.rm l).head?≠some 45
 |[]=>by intro z;cases z
 |a::l=>by
  rw[hU];split
  ·intro z;cases z
  ·rename_i h;intro z;exact h (by injection z)
theorem yx:∀l l':List Nat,Tx.rm l=Tx.rm l'->l=l'
 |[],[],_=>rfl
 |[],b::l',h=>by
  rw[hU]at h;split at h<;>cases h
 |a::l,[],h=>by
  rw[hU]at h;split at h<;>cases h
 |a::l,b::l',h=>by
  rw[hU,hU]at h;split at h
  ·split at h
   ·rename_i h1 h2;injection h with _ h;injection h with _ h;rw[h1,h2,yx l l' h]
   ·injection h with _ h;exact absurd (by rw[<- show 45::Tx.rm l=Tx.rm l' from h];rfl) (BY l')
  ·split at h
   ·injection h with _ h;exact absurd (by rw[show Tx.rm l=45::Tx.rm l' from h];rfl) (BY l)
   ·injection h with h1 h;rw[h1,yx l l' h]
theorem BH:∀ys:List Str,ys.all mq=true->∃ss:List Sg,(∀t∈ss,fQ t.2)/\ys=ss.map λt=>Tx.term (cm t)
 |[],_=>⟨[],λt h=>(by cases h),rfl⟩
 |y::ys,h=>by
  rw[all_cons]at h;obtain⟨h1,h2⟩:=and_eq_true_iff.mp h;obtain⟨t,t1,t2⟩:=Dc h1;obtain⟨ss,s1,s2⟩:=BH ys h2;exact⟨t::ss,λu hu=>(by
   rcases mem_cons.mp hu with rfl|hu
   ·exact t1
   ·exact s1 u hu),by rw[t2,s2];rfl⟩
variable {p:List Nat}
theorem Mj(c:Nat){l:List Nat}{r:List (List Nat)}(h:Tx.bB c l=p::r){d:Nat}(hp:p.head?=some d):l.head?=some d:=by
 cases r with
 |nil=>rw[iS h];exact hp
 |cons q r=>
  obtain⟨m,e,_⟩:=mH h;rw[e,List.head?_append,hp];rfl
theorem Ka{d:Nat}{l:List Nat}{r:List (List Nat)}(hd:d≠c)(h:Tx.bB c (d::l)=p::r):p.head?=some d:=by
 unfold Tx.bB at h;rw[if_neg hd]at h;split at h
 ·injection h with h _;rw[<- h];rfl
 ·injection h with h _;rw[<- h];rfl
theorem sO{a:Nat}(m:List Nat):(Tx.bB c (a::m)).length<=(Tx.bB c m).length+1/\(a≠c->(Tx.bB c (a::m)).length=(Tx.bB c m).length):=by
 have h0:=Tx.iO c m;have e:Tx.bB c (a::m)=if a=c then[]::Tx.bB c m else match Tx.bB c m with|[]=>[[a]]|h::t=>(a::h)::t:=rfl
 rw[e];cases em:Tx.bB c m with
 |nil=>exact absurd em h0
 |cons h t=>
  refine⟨?_,λz=>?_⟩
  ·split
   ·exact le_refl _
   ·exact le_succ _
  ·rw[if_neg z];rfl
theorem yy:∀l:List Nat,(Tx.bB 43 (Tx.rm l)).length<=l.length+1
 |[]=>le_refl _
 |a::l=>by
  have ih:=yy l;rw[hU,length_cons];split
  ·have h1:=(sO (c:=43) (a:=43) (45::Tx.rm l)).1;have h2:=(sO (c:=43) (a:=45) (Tx.rm l)).2 (by decide);show(Tx.bB 43 (43::45::Tx.rm l)).length<=_;omega
  ·have h1:=(sO (c:=43) (a:=a) (Tx.rm l)).1;show(Tx.bB 43 (a::Tx.rm l)).length<=_;omega
theorem vk(hx:Tok x)(h:fw x=true):∃(t:Sg) (ss:List Sg),(∀u∈t::ss,fQ u.2)/\x=txt ((t::ss).map cm)/\(t::ss).length<=100/\x.length<=80/\kQ x=(t::ss).map λt=>Tx.term (cm t):=by
 unfold fw at h;obtain⟨pP,ha⟩:=and_eq_true_iff.mp h;have pP:x.length<=80:=of_decide_eq_true pP;obtain⟨ss,s1,s2⟩:=BH _ ha;have e0:tl (ip x)=Tx.rm (tl x):=Tx.lH _;have e1:(bE 43 (ip x)).map tl=Tx.bB 43 (Tx.rm (tl x)):=by rw[cU (by decide),e0]
 have e2:Tx.bB 43 (Tx.rm (tl x))=(if(tl x).head?=some 45 then[[]]else[])++(kQ x).map tl:=by
  unfold kQ;split
  ·rename_i hc;rw[<- e1];cases e:bE 43 (ip x)with
   |nil=>exact absurd e (lJ (by decide))
   |cons p r=>
    have:tl p=[]:=by
     rw[e]at e1;have e3:=jS hc;rw[e3,hU,if_pos rfl]at e1;have e1:tl p::r.map tl=Tx.bB 43 ([]++43::(45::Tx.rm (tl (mY x)))):=e1;rw[Tx.gF 43 [] _ (by simp)]at e1;injection e1
    rw[map_cons,this];rfl
  ·rw[nil_append,e1]
 have hlen:ss.length<=100:=by
  have h1:=yy (tl x);rw[e2,s2,length_append,length_map,length_map,bH]at h1;omega
 cases ss with
 |nil=>
  rw[s2,map_nil,map_nil,append_nil]at e2;split at e2
  ·rename_i hc;have:=iS e2;rw[jS hc,hU,if_pos rfl]at this;cases this
  ·exact absurd e2 (Tx.iO 43 _)
 |cons t ss=>
  have Cc:(tl x).head?=some 45↔t.1=true:=by
   rw[s2,map_cons,map_cons]at e2;constructor
   ·intro hc;rw[if_pos hc,jS hc,hU,if_pos rfl]at e2;have e2:Tx.bB 43 ([]++43::(45::Tx.rm (tl (mY x))))=_:=e2;rw[Tx.gF 43 [] _ (by simp)]at e2;injection e2 with _ e2;have hh:=Ka (by decide) (show Tx.bB 43 (45::Tx.rm (tl (mY x)))=_ from e2);cases ht:t.1 with
    |true=>rfl
    |false=>
     obtain⟨c,r,ec,hc⟩:=oP (s1 t mem_cons_self);have:tl (Tx.term (cm t))=c::r:=by
      unfold Tx.term;rw[if_neg (show ¬t.1=true by rw[ht];exact Bool.false_ne_true)];exact ec
     rw[this]at hh;injection hh with hh;exact absurd hh hc
   ·intro ht;by_cases hc:(tl x).head?=some 45
    ·exact hc
    ·rw[if_neg hc,nil_append]at e2;have:=Mj 43 e2 (d:=45) (by
      unfold Tx.term;rw[if_pos ht,aR];rfl)
     exact absurd this (BY _)
  refine⟨t,ss,s1,?_,hlen,pP,s2⟩;refine d6 (yx _ _ (K7 43 _ _ _ (le_refl _) ?_));rw[e2,s2,map_cons];show _=Tx.bB 43 (Tx.rm (tl ((cm t::ss.map cm).foldl Tx.eF ⟨#[]⟩)));rw[Tx.wu (cm t) (ss.map cm) (λv hv=>by
   rw[<- map_cons (f:=cm)]at hv;obtain⟨u,hu,rfl⟩:=mem_map.mp hv;exact tV (s1 u hu))]
  have WB:(if(tl x).head?=some 45 then[([]:List Nat)]else[])=if(cm t).neg=true then[[]]else[]:=by
   by_cases hc:(tl x).head?=some 45
   ·rw[if_pos hc,if_pos (Cc.mp hc)]
   ·rw[if_neg hc,if_neg λz=>hc (Cc.mpr z)]
  rw[WB,map_cons,map_cons,map_map,map_map];rfl
noncomputable abbrev LX (ss:List Sg):Dat:=.list ((ss.map cN).map bK)
theorem AI(hS:A9 Fs)(hR:FT Fs F)(hx:Tok x)(h:fw x=true):∃ss:List Sg,(∀u∈ss,fQ u.2)/\ss.length<=100/\ss.map (λt=>Tx.term (cm t))=kQ x/\F [.str x]=some (LX ss):=by
 obtain⟨t,ss,h1,h2,h3,h4,h5⟩:=vk hx h;refine⟨t::ss,h1,h3,h5.symm,?_⟩
 ·have:=hR (cm t) (ss.map cm) (λu=>(Fs [.str (Tx.term u)]).getD .none) (λv hv=>by
   rw[<- map_cons (f:=cm)]at hv;obtain⟨u,hu,rfl⟩:=mem_map.mp hv;exact tV (h1 u hu)) (by rw[<- map_cons (f:=cm),length_map];exact h3) (by rw[<- map_cons (f:=cm),<- h2];exact h4) (λv hv=>by
   rw[<- map_cons (f:=cm)]at hv;obtain⟨u,hu,rfl⟩:=mem_map.mp hv;rw[hS u (h1 u hu)];rfl)
  rw[<- map_cons (f:=cm),<- h2,map_map]at this;rw[this];show some (Dat.list _)=some (Dat.list _);rw[map_map];congr 2
  refine map_congr_left λu hu=>?_;show(Fs [.str (Tx.term (cm u))]).getD .none=_;rw[hS u (h1 u hu)];rfl
noncomputable def Bb (k:Str):Bool:=(uq.find? λp=>decide (p.1=k)).isSome
theorem Qz{k:Str}(h:Bb k=true):∃k' tu,K5 k k' tu:=by
 unfold Bb at h;obtain⟨p,hp⟩:=isSome_iff_exists.mp h;have h1:=List.mem_of_find?_eq_some hp;have h2:p.1=k:=by
  have:=List.find?_some hp;exact of_decide_eq_true this
 rw[<- h2];simp only[uq,mem_cons,not_mem_nil,or_false]at h1;rcases h1 with rfl|rfl|rfl|rfl|rfl
 ·exact⟨_,_,.inl ⟨rfl,rfl,rfl⟩⟩
 ·exact⟨_,_,.inr (.inl ⟨rfl,rfl,rfl⟩)⟩
 ·exact⟨_,_,.inr (.inr (.inl ⟨rfl,rfl,rfl⟩))⟩
 ·exact⟨_,_,.inr (.inr (.inr (.inl ⟨rfl,rfl,rfl⟩)))⟩
 ·exact⟨_,_,.inr (.inr (.inr (.inr ⟨rfl,rfl,rfl⟩)))⟩
theorem As{Fw:List Dat->Option Dat}{Rw:List Dat->Addr->Bool}{c:iR}(hS:BJ Fw)(hX:JG c Rw):∀ys:List Str,(∀y∈ys,Tok y)->ys.all f6=false->xCompL (aName 0) cQ (cu 1 Fw (ax (aj 0) aK)) (xFn 1 Rw c.nf (ax (aj 0) aK)) [none] (ys.map .str)=true
 |[],_,h=>by cases h
 |y::ys,ht,h=>by
  have ty:=ht y mem_cons_self;rw[map_cons];unfold xCompL;show(xFn 1 Rw c.nf (ax (aj 0) aK) [some (.str y)] || ((cu 1 Fw (ax (aj 0) aK) [some (.str y)]).isSome&&xCompL _ _ _ _ [none] (ys.map .str)))=true;cases hy:f6 y with
  |false=>
   have:xFn 1 Rw c.nf (ax (aj 0) aK) [some (.str y)]=true:=by
    have hR:=hX y ty.l ty.a hy;show(decide (1=1)&&Rw [.str y] c.nf)=true;rw[hR];rfl
   rw[this];rfl
  |true=>
   rw[all_cons,hy,Bool.true_and]at h;rw[As hS hX ys (λz hz=>ht z (mem_cons_of_mem _ hz)) h];obtain⟨n,h1,h2⟩:=xY hy;have e:=hS n h1;rw[<- h2]at e;have e2:cu 1 Fw (ax (aj 0) aK) [some (.str y)]=some (.int (n:Int)):=by
    generalize Dat.str y=dy at *;dsimp![e]
   rw[e2,isSome_some,Bool.true_and,Bool.or_true]
theorem Q0{g1 g2:ay->Bool}(h:xE g1 Γ=true):xE (yOr g1 g2) Γ=true:=by unfold xE yOr at *;rw[h];rfl
theorem PZ{g1 g2:ay->Bool}(h:xE g2 Γ=true):xE (yOr g1 g2) Γ=true:=by unfold xE yOr at *;rw[h,Bool.or_true]
theorem ya{ss:List Sg}(h:∀u∈ss,fQ u.2):∀t∈ss.map cN,Pd t.2:=λt ht=>by
 obtain⟨u,hu,rfl⟩:=mem_map.mp ht;exact Mp (h u hu)
abbrev SN (c:iR) (R:List Dat->Addr->Bool):Prop:=∀(a l k r:Str) (ns:List Str),Tok l->Tok r->(∀n∈ns,Tok n)->ns.length<=4000->(Bb k&&(fw l&&(fw r&&ns.all f6)))=false->R [.str a,.str l,.str k,.str r,.list (ns.map .str)] c.nf=true
theorem HE(T:TX mg)(R:RX P w K mg){c:iR}(EK:EX K mg c){Fg:List Dat->Option Dat}{Rs:List Dat->Addr->Bool}(hG:A9 Fg)(kj:va P w K mg base 6 "read_sum" ["word"] 1 Fs)(hS:FT Fg Fs)(xj:DnXT P w K mg base 6 "read_sum" ["word"] 1 Rs)(Jl:SI c Rs)(mT:Dn P w K mg base 6 "turned" ["terms"] 1 Ft)(hT:Pq Ft)(fI:Dn P w K mg base 6 "read_whole" ["word"] 1 Fw)(hW:BJ Fw)(lx:DnX P w K mg base 6 "read_whole" ["word"] 1 Rw)(Ey:JG c Rw)(U:FnAt K mg "read_line" (top 38) ["word","left","sign","right","numbers"]):
  ∃R,DnXT P w K mg base 7 "read_line" ["word","left","sign","right","numbers"] 5 R/\SN c R:=by
 refine⟨_,qdnXT ["word","left","sign","right","numbers","terms"] U λnd _ _ _ _ _ _ _ _ hr hx=>(tr_cons (tr_of (qr_if (qj R.ki (ae 2)) (qr_one (qr_raise hx EK.nf (af ar ah))) qr_no)) (rq (aH (qj R.ki (ae 2)) (aw bS) aE))
  (tr_cons (tr_set 5 nd (tre_or (tre_opl (tre_callT xj hr hx (af (ae 1) ah))) (tre_opr (jg kj hr (hV (af (ae 1) ah))) (tre_arg mT hr (tra_hd (tre_callT xj hr hx (af (ae 3) ah)) (hs:=bf)) (he:=bf))))) (oY 5 nd (yB (jg kj hr (hV (af (ae 1) ah))) (Dk mT hr (wj (jg kj hr (hV (af (ae 3) ah))) (hV ah) (hs:=bf)))))
  (trs_of (qr_tl (aH (bM (g8 (ae 2) (af ar ah))) (aw (az 5 nd (aL mT hr (af (ae 5) ah)))) aE)
  (qr_hd (qr_ret (qre_tup (qra_tl (ae 0) (qra_tl (mZ R.ki (ae 2)) (qra_tl (ae 5) (qra_hd (qre_comp hx (eW (N':=["number"])) (ae 4) (λ_ _ _ _=>(bp 0 (show(["number"]:List Str).Nodup by decide +kernel))) (λ_ _ _ _=>dY) (λ_ _ _ _=>(aL fI hr (af (ae 0) ah))) (λ_ _ _ _ hp hA=>qre_callP lx hr hp hA (af (ae 0) ah)) (cY rfl)))) (hs:=aJ)))))))))),?_⟩
 intro a l k r ns hl hr wM Bd hb;have k0:vG uq (.str k)=some (.bool (!Bb k)):=rfl;cases hk:Bb k with
 |false=>
  rw[hk]at k0;have k0:vG uq (.str k)=some (.bool true):=k0;generalize Dat.str a=da at *;generalize Dat.str l=dl at *;generalize Dat.str r=dr at *;generalize Dat.str k=dk at *;generalize Dat.list (ns.map .str)=cH at *;refine g6 ((g7 ?_).trans (fJ rfl (by decide)));dsimp![bY,k0]
 |true=>
 rw[hk,Bool.true_and]at hb;rw[hk]at k0;have k0:vG uq (.str k)=some (.bool false):=k0;obtain⟨k',tu,Wy⟩:=Qz hk;obtain⟨_,k2,k3⟩:=NB Wy;refine eY ((bI (au:=[~~~.str a,~~~.str l,~~~.str k,~~~.str r,~~~.list (ns.map .str),none]) (by
  generalize Dat.str a=da at *;generalize Dat.str l=dl at *;generalize Dat.str r=dr at *;generalize Dat.str k=dk at *;generalize Dat.list (ns.map .str)=cH at *;show eI _ _ _ [~~~(da),~~~(dl),~~~(dk),~~~(dr),~~~(cH),none]=_;dsimp![k0])).trans ?_)
 cases wL:fw l with
 |false=>
  have hR:=Jl l hl wL;generalize Dat.str a=da at *;generalize Dat.str l=dl at *;generalize Dat.str r=dr at *;generalize Dat.str k=dk at *;generalize Dat.list (ns.map .str)=cH at *;refine g6 (Q0 (gk (ds:=[dl]) ?_ rfl hR));dsimp![]
 |true=>
 rw[wL,Bool.true_and]at hb;obtain⟨ss,s1,s2,s3,el⟩:=AI hG hS hl wL;cases NO:fw r with
 |false=>
  have hR:=Jl r hr NO;generalize LX ss=fX at *;generalize Dat.str a=da at *;generalize Dat.str l=dl at *;generalize Dat.str r=dr at *;generalize Dat.str k=dk at *;generalize Dat.list (ns.map .str)=cH at *;refine g6 (PZ (mG (d:=fX) ?_ (gk (ds:=[dr]) ?_ rfl hR)))
  ·dsimp![el]
  ·dsimp![]
 |true=>
 rw[NO,Bool.true_and]at hb;obtain⟨us,u1,u2,u3,er⟩:=AI hG hS hr NO;have UM:=ya s1;have NS:=ya u1;have Wu:(ss.map cN).length<=100:=by rw[length_map];exact s2
 have hl2:(us.map cN).length<=100:=by rw[length_map];exact u2
 have el:Fs [.str l]=some (.list ((ss.map cN).map bK)):=el;have er:Fs [.str r]=some (.list ((us.map cN).map bK)):=er;generalize ss.map cN=ts at *;generalize us.map cN=vs at *;have et:=hT vs (by omega) NS;have ea:jO (.list (ts.map bK)) (.list ((vs.map gC).map bK))=some (.list ((ts++vs.map gC).map bK)):=by
  show(if(ts.map bK).length+((vs.map gC).map bK).length<=sizeLine then some (Dat.list (ts.map bK++(vs.map gC).map bK))else none)=_;rw[if_pos (by rw[length_map,length_map,length_map];exact sz (by omega)),<- map_append]
 have Ox:=hT (ts++vs.map gC) (by rw[length_append,length_map];omega) (λt ht=>by
  rcases mem_append.mp ht with ht|ht
  ·exact UM t ht
  ·obtain⟨u,hu,rfl⟩:=mem_map.mp ht;exact um (NS u hu))
 have key:=As hW Ey ns wM hb;have fin:∀d:Dat,xE (xComp [none] (aName 0) cQ (cu 1 Fw (ax (aj 0) aK)) (xFn 1 Rw c.nf (ax (aj 0) aK)) (aj 4)) [~~~.str a,~~~.str l,~~~.str k,~~~.str r,~~~.list (ns.map .str),~~~(d)]=true:=λd=>by
  show(decide ((ns.map Dat.str).length<sizeLine)&&xCompL _ _ _ _ [none] (ns.map .str))=true;rw[key,decide_eq_true (by rw[length_map];exact bC Bd)];rfl
 clear key;generalize Dat.list (((ts++vs.map gC).map gC).map bK)=qI at *;generalize Dat.list ((ts++vs.map gC).map bK)=fX at *;generalize Dat.list ((vs.map gC).map bK)=XW at *;generalize Dat.list (vs.map bK)=XQ at *;generalize Dat.list (ts.map bK)=dt at *;generalize Dat.list (ns.map .str)=cH at *;generalize Dat.str a=da at *;generalize Dat.str l=dl at *;generalize Dat.str r=dr at *;generalize Dat.str k=dk at *;generalize Dat.str k'=Su at *;refine eY ((bI (au:=[~~~(da),~~~(dl),~~~(dk),~~~(dr),~~~(cH),~~~(fX)]) (by dsimp![el,er,et,ea])).trans ?_);refine(bI (au:=[~~~(da),~~~(dl),~~~(dk),~~~(dr),~~~(cH),~~~(if tu=true then qI else fX)]) (by
  cases tu with
  |true=>
   rw[if_pos rfl];dsimp![k3,Ox]
  |false=>
   rw[if_neg Bool.false_ne_true];dsimp![k3])).trans ?_
 have fin:=fin (if tu=true then qI else fX);generalize (if tu=true then qI else fX)=dd at *;refine mG (d:=da) (by dsimp![]) (mG (d:=Su) (by dsimp![k2]) (mG (d:=dd) (by dsimp![]) fin))
noncomputable abbrev nS (l:List Nat):Str:=⟨l.toArray⟩
theorem qX(l:List Nat):tl (nS l)=l:=toList_toArray
theorem xG(x:Str):nS (tl x)=x:=d6 (qX _)
noncomputable abbrev gS (l:List Nat):Bool:=mq (nS l)
noncomputable abbrev gT (l:List Nat):Bool:=gm (nS l)
theorem Bn{b:List Nat}(h:45∉b):gS b=gT b:=by
 show mq (nS b)=_;unfold mq;rw[if_neg (λz=>h (by rw[qX]at z;exact List.mem_of_head? z))]
theorem EB(b:List Nat):gS (45::b)=gT b:=by
 show mq (nS (45::b))=_;unfold mq;rw[if_pos (by rw[qX];rfl)];show gm (mY (nS (45::b)))=gm (nS b);rfl
theorem iw(c:Nat)(m:List Nat):Tx.bB c (c::m)=[]::Tx.bB c m:=by
 have e:Tx.bB c (c::m)=if c=c then[]::Tx.bB c m else match Tx.bB c m with|[]=>[[c]]|h::t=>(c::h)::t:=rfl
 rw[e,if_pos rfl]
theorem jU{a:Nat}(h:a≠c){m:List Nat}{r:List (List Nat)}(e:Tx.bB c m=p::r):Tx.bB c (a::m)=(a::p)::r:=by
 have e2:Tx.bB c (a::m)=if a=c then[]::Tx.bB c m else match Tx.bB c m with|[]=>[[a]]|h::t=>(a::h)::t:=rfl
 rw[e2,if_neg h,e]
theorem sL:∀l:List Nat,∃p as bs,Tx.bB 43 (Tx.rm l)=p::as/\Tx.bB 43 (l.map sw)=p::bs/\45∉p/\as.map gS=bs.map gT
 |[]=>⟨[],[],[],rfl,rfl,by simp,rfl⟩
 |c::l=>by
  obtain⟨p,as,bs,h1,h2,h3,h4⟩:=sL l;rw[hU,map_cons];by_cases hm:c=45
  ·subst hm;refine⟨[],(45::p)::as,p::bs,?_,?_,by simp,?_⟩
   ·rw[if_pos rfl];show Tx.bB 43 (43::45::Tx.rm l)=_;rw[iw,jU (by decide) h1]
   ·show Tx.bB 43 (43::l.map sw)=_;rw[iw,h2]
   ·rw[map_cons,map_cons,h4,EB]
  ·rw[if_neg hm,show sw c=c from if_neg hm];by_cases hp:c=43
   ·subst hp;refine⟨[],p::as,p::bs,?_,?_,by simp,?_⟩
    ·show Tx.bB 43 (43::Tx.rm l)=_;rw[iw,h1]
    ·rw[iw,h2]
    ·rw[map_cons,map_cons,h4,Bn h3]
   ·refine⟨c::p,as,bs,?_,?_,?_,h4⟩
    ·show Tx.bB 43 (c::Tx.rm l)=_;exact jU hp h1
    ·exact jU hp h2
    ·intro z;rcases mem_cons.mp z with z|z
     ·exact hm z.symm
     ·exact h3 z
theorem all_map(g:List Nat->Bool)(ys:List Str)(G:Str->Bool)(h:∀y:Str,G y=g (tl y)):ys.all G=((ys.map tl).map g).all id:=by
 rw[map_map,List.all_map];congr 1
 funext y
 exact h y
theorem Mf(x:Str):(kQ x).all mq=(cC x).all gm:=by
 have hS:∀y:Str,mq y=gS (tl y):=λy=>by show _=mq (nS (tl y));rw[xG]
 have hT:∀y:Str,gm y=gT (tl y):=λy=>by show _=gm (nS (tl y));rw[xG]
 rw[all_map gS _ _ hS,all_map gT _ _ hT];congr 1
 have e0:(bE 43 (ip x)).map tl=Tx.bB 43 (Tx.rm (tl x)):=by
  rw[cU (by decide),show tl (ip x)=Tx.rm (tl x)from Tx.lH _]
 have e1:(cC x).map tl=Tx.bB 43 ((tl (ik x)).map sw):=by
  unfold cC;rw[cU (by decide),om]
 rw[e1];unfold kQ ik;by_cases hc:(tl x).head?=some 45
 ·rw[if_pos hc,if_pos hc,List.map_drop,e0];have hx:=jS hc;obtain⟨p,as,bs,h1,h2,h3,h4⟩:=sL (tl (mY x));rw[h2,hx,hU,if_pos rfl];show((Tx.bB 43 (43::45::Tx.rm (tl (mY x)))).drop 1).map gS=_;rw[iw,jU (by decide) h1];show gS (45::p)::as.map gS=gT p::bs.map gT;rw[EB,h4]
 ·rw[if_neg hc,if_neg hc,e0];obtain⟨p,as,bs,h1,h2,h3,h4⟩:=sL (tl x);rw[h1,h2];show gS p::as.map gS=gT p::bs.map gT;rw[Bn h3,h4]
theorem K2(h:(tl x).head?=some 43):(cC x).all gm=false:=by
 have hx:=jS h;have hT:∀y:Str,gm y=gT (tl y):=λy=>by show _=gm (nS (tl y));rw[xG]
 rw[all_map gT _ _ hT];unfold cC ik;rw[if_neg (by rw[h];decide),cU (by decide),om,hx,map_cons];show((Tx.bB 43 (43::(tl (mY x)).map sw)).map gT).all id=false;rw[iw,map_cons,all_cons,show gT []=false by decide +kernel];rfl
abbrev T5 (F:List Dat->Option Dat):Prop:=∀x:Str,Tok x->F [.str x]=some (.bool (fw x))
theorem Lr(T:TX mg){Fg:List Dat->Option Dat}(tJ:Dn P w K mg base 3 "_law_terms" ["word"] 1 Ft)(hL:PH Ft)(Af:Dn P w K mg base 3 "_law_good_term" ["term"] 1 Fg)(hG:Tc Fg)(U:FnAt K mg "_law_good" (top 60) ["word"]):
  ∃F,Dn P w K mg base 4 "_law_good" ["word"] 1 F/\T5 F:=by
 refine⟨_,ek ["word"] U λnd _ _ _ _ _ _ _ hr=>(ao (aH (cE (gG (dP (aY T.len (af (ae 0) ah)) ai) (fR (aX hr (br (ae 0) bj (aV ai)) ar)))) (aw (aN jC)) aE)
  (aw (aN (vt hr (dj (fK rfl (eW (N':=["term"])) (aL tJ hr (af (ae 0) ah)) (λ_ _ _ _=>(bp 0 (show(["term"]:List Str).Nodup by decide +kernel))) (λ_ _ _ _=>(gK (dM (bM (aL Af hr (af (ae 0) ah)))))) (λ_ _ _ _=>(ae 0)) (cY rfl))) (cq ah))))),?_⟩
 intro x hx;have z0:0<=sizeLine:=zero_le _;obtain⟨y,e1,_,e2⟩:=zw hx.l;have hl:=len_str (x:=x) hx.l;have g1:=cK (x.length:Int) 80;have et:=hL x hx;have ht:∀z∈cC x,Tok z:=λz hz=>jh (by decide) (oq (oi hx)) hz;have hlen:(cC x).length<=4001:=by
  have h1:=mL (c:=43) (by decide) (pZ (ik x));have h2:=(oq (oi hx)).l;show(bE 43 (pZ (ik x))).length<=_;omega
 have ec:cL (aName 0) (gZ (ja (cu 1 Fg (ax (aj 0) aK)))) (aj 0) [none] ((cC x).map Dat.str)=some (((cC x).filter λz=>!gm z).map Dat.str):=
  gQ Dat.str Dat.str (λz=>!gm z) (cC x) λz hz=>⟨[(0,.str z)],rfl,by
   have e:=hG z (ht z hz);generalize gm z=b at *;generalize Dat.str z=dy at *;cases b<;>(dsimp![e]<;>rfl),λ_=>rfl⟩
 have hz:((cC x).map Dat.str).length<sizeLine:=by rw[length_map,sizeLine_eq];omega
 have ef:fL (d7 [none] (aName 0) (gZ (ja (cu 1 Fg (ax (aj 0) aK)))) (aj 0) (cu 1 Ft (ax (aj 0) aK))) [some (.str x)]=some (.list (((cC x).filter λz=>!gm z).map Dat.str)):=iG (d:=.list ((cC x).map .str)) (ds:=(cC x).map .str) (by
  clear ec;generalize Dat.list ((cC x).map .str)=dl at *;generalize Dat.str x=dx at *;dsimp![et]) rfl hz ec
 have ne:=vO ((cC x).filter λz=>!gm z) (λz hz=>Fx (ht z (mem_filter.mp hz).1).a);rw[ti]at ne;clear ec hz;have W8:fw x=(decide (x.length<=80)&&(cC x).all gm):=by unfold fw;rw[Mf]
 rw[W8];have bW:(tl x).head?=some 43->(cC x).all gm=false:=K2;generalize (cC x).all gm=ba at *;generalize Dat.list (((cC x).filter λz=>!gm z).map Dat.str)=OR at *;refine bQ ?_;show bG _ _ [~~~.str x]=_;by_cases pP:x.length<=80
 ·rw[decide_eq_false (by omega)]at g1;rw[decide_eq_true pP,Bool.true_and];by_cases hc:(tl x).head?=some 43
  ·rw[bW hc];rw[hc]at e2;have e2:d8 (.str y) (.str (Str.ofString "+"))=some (.bool true):=e2;clear ef ne et;generalize (x.length:Int)=n at *;generalize Dat.str x=dx at *;generalize Dat.str y=dy at *;refine d9 ?_;dsimp![gD,dI,eE,kg,hl,g1,e1,e2]
  ·rw[show((tl x).head? == some 43)=false by simpa using hc]at e2;rw[aG (au:=[~~~.str x]) (by
    clear ef ne et;generalize (x.length:Int)=n at *;generalize Dat.str x=dx at *;generalize Dat.str y=dy at *;dsimp![gD,dI,eE,kg,hl,g1,e1,e2])]
   refine gj ?_;show L3.f2 jN (fL (d7 [none] (aName 0) (gZ (ja (cu 1 Fg (ax (aj 0) aK)))) (aj 0) (cu 1 Ft (ax (aj 0) aK)))) (lb aK) [some (.str x)]=_;generalize fL (d7 [none] (aName 0) (gZ (ja (cu 1 Fg (ax (aj 0) aK)))) (aj 0) (cu 1 Ft (ax (aj 0) aK)))=fx at *;generalize Dat.str x=dx at *;dsimp![ef,ne,z0]
 ·rw[decide_eq_true (by omega)]at g1;rw[decide_eq_false pP,Bool.false_and];clear ef ne et;generalize (x.length:Int)=n at *;generalize Dat.str x=dx at *;refine d9 ?_;dsimp![hl,g1]
noncomputable abbrev sG:Str:="given"
noncomputable abbrev sS:Str:="so"
noncomputable abbrev sF:Str:="from"
noncomputable abbrev s1:Str:="1"
theorem sE(h:tl x=Tx.glue ((y::ys).map tl))(hn:∀z∈y::ys,32∉tl z)(hl:x.length<=4000):eO (.str x) [.str " "]=some ((y::ys).map .str):=by
 obtain⟨zs,e1,e2⟩:=kZ (x:=x) (c:=32) (by decide) hl;rw[h]at e1;have:Tx.bB 32 (Tx.glue ((y::ys).map tl))=(y::ys).map tl:=Tx.yj (tl y) (ys.map tl) (λl hl=>by
  have hl:l∈(y::ys).map tl:=hl;obtain⟨z,hz,rfl⟩:=mem_map.mp hl;exact hn z hz)
 rw[this]at e1;rw[show(" " : Str)=⟨#[32]⟩from P6,e2,dO e1]
noncomputable abbrev sA:Str:="ask"
structure SJ (Fl Fi F:List Dat->Option Dat):Prop where
 gv:∀(x l k r:Str) (d:Dat),tl x=Tx.glue ([sG,l,k,r].map tl)->(∀z∈[sG,l,k,r],32∉tl z)->x.length<=4000->Fl [.str sG,.str l,.str k,.str r,.list []]=some d->F [.str x]=some d
 so:∀(x l k r:Str) (fs:List Str) (d:Dat),1<=fs.length->fs.length<=6->tl x=Tx.glue ((sS::l::k::r::sF::fs).map tl)->(∀z∈sS::l::k::r::sF::fs,32∉tl z)->x.length<=4000->Fl [.str sS,.str l,.str k,.str r,.list (fs.map .str)]=some d->F [.str x]=some d
 ak:∀(x n:Str),tl x=Tx.glue ([sA,n].map tl)->32∉tl n->x.length<=4000->Fi [.str n]=some (.bool true)->F [.str x]=some (.tuple [.str sA,.str n])
variable {xo:List Dat->Option Dat}
theorem OU(T:TX mg)(R:RX P w K mg)(kM:va P w K mg base 7 "read_line" ["word","left","sign","right","numbers"] 5 xo)(fT:Dn P w K mg base 7 "is_name" ["word"] 1 Fi)(U:FnAt K mg "read_row" (top 39) ["row"]):
  ∃F,Dn P w K mg base 8 "read_row" ["row"] 1 F/\SJ xo Fi F:=by
 refine⟨_,ek ["row","words"] U λnd _ _ _ _ _ _ _ hr=>(BZ 1 nd (ae 0)
  (jX (rz (cE (cz (aX hr (aB (ae 1) ai) ar) (cX (aX hr (aY T.len (af (ae 1) ah)) ai)))) (p0 (oZ (jg kM hr (hV (af ar (af (aB (ae 1) ai) (af (aB (ae 1) ai) (af (aB (ae 1) ai) (af (cq ah) ah (hs:=jJ)) (hs:=aJ)) (hs:=aJ)) (hs:=aJ))))))) (jK aE))
  (jX (rz (cE (cz (aX hr (aB (ae 1) ai) ar) (cz (gh ai (aY T.len (af (ae 1) ah)) (fm ai (eT R.mm))) (cX (aX hr (aB (ae 1) ai) ar))))) (p0 (oZ (jg kM hr (hV (af ar (af (aB (ae 1) ai) (af (aB (ae 1) ai) (af (aB (ae 1) ai) (af (iC (ae 1) (aV ai) bj) ah (hs:=aJ)) (hs:=aJ)) (hs:=aJ)) (hs:=aJ))))))) (jK aE))
  (jK (ao (aH (cE (cz (aX hr (aB (ae 1) ai) ar) (cz (aX hr (aY T.len (af (ae 1) ah)) ai) (cX (bM (aL fT hr (af (aB (ae 1) ai) ah (hs:=aJ)))))))) (aw (aN (dZ (k:=0) (af ar (af (aB (ae 1) ai) ah (hs:=aJ)))))) aE)
  (aw bS)))))),?_⟩
 have z0:0<=sizeLine:=zero_le _;have z2:2<=sizeLine:=sz (by decide);refine⟨λx l k r d hx hn hl e=>?_,λx l k r fs d h1 h6 hx hn hl e=>?_,λx n hx hn hl e=>?_⟩
 ·have ew:=sE (ys:=[l,k,r]) (y:=sG) hx hn hl;rw[map_cons,map_cons,map_cons,map_cons,map_nil]at ew;have lp:dC [.list [.str sG,.str l,.str k,.str r]]=some (.int 4):=rfl;have i0:bu (.list [.str sG,.str l,.str k,.str r]) (.int 0)=some (.str sG):=rfl;have i1:bu (.list [.str sG,.str l,.str k,.str r]) (.int 1)=some (.str l):=rfl;have i2:bu (.list [.str sG,.str l,.str k,.str r]) (.int 2)=some (.str k):=rfl;have i3:bu (.list [.str sG,.str l,.str k,.str r]) (.int 3)=some (.str r):=rfl;have q0:d8 (.str sG) (.str "given")=some (.bool true):=rfl;have q4:=bV 4 4;rw[decide_eq_true rfl]at q4;have e:xo [.str (Str.ofString "given"),.str l,.str k,.str r,.list []]=some d:=e;refine bQ ?_;show bG _ _ [~~~.str x,none]=_;generalize Dat.str sG=dg at *;generalize Dat.str l=dl at *;generalize Dat.str k=dk at *;generalize Dat.str r=dr at *;generalize Dat.str x=dx at *;rw[aG (au:=[~~~(dx),~~~.list [dg,dl,dk,dr]]) (by dsimp![eD,ew])];generalize Dat.list [dg,dl,dk,dr]=kU at *;refine d9 ?_;dsimp![i0,i1,i2,i3,lp,q0,q4,e,z0]
 ·have ew:=sE (ys:=l::k::r::sF::fs) (y:=sS) hx hn hl;have lp:dC [.list ((sS::l::k::r::sF::fs).map .str)]=some (.int ((5+fs.length:Nat):Int)):=by
   show some (Dat.int (((sS::l::k::r::sF::fs).map Dat.str).length:Int))=_;rw[length_map];congr 2
   simp only[length_cons];omega
  have i0:bu (.list ((sS::l::k::r::sF::fs).map .str)) (.int 0)=some (.str sS):=L3.fo (k:=0) rfl;have i1:bu (.list ((sS::l::k::r::sF::fs).map .str)) (.int 1)=some (.str l):=L3.fo (k:=1) rfl;have i2:bu (.list ((sS::l::k::r::sF::fs).map .str)) (.int 2)=some (.str k):=L3.fo (k:=2) rfl;have i3:bu (.list ((sS::l::k::r::sF::fs).map .str)) (.int 3)=some (.str r):=L3.fo (k:=3) rfl;have i4:bu (.list ((sS::l::k::r::sF::fs).map .str)) (.int 4)=some (.str sF):=L3.fo (k:=4) rfl;have sl:rW (.list ((sS::l::k::r::sF::fs).map .str)) (some 5) none=some (.list (fs.map .str)):=L3.jV (ds:=(sS::l::k::r::sF::fs).map .str) (m:=5);have q0:d8 (.str sS) (.str "given")=some (.bool false):=rfl;have q1:d8 (.str sS) (.str "so")=some (.bool true):=rfl;have q2:d8 (.str sF) (.str "from")=some (.bool true):=rfl;have l1:=dE 6 ((5+fs.length:Nat):Int);have l2:=dE ((5+fs.length:Nat):Int) 11;rw[decide_eq_true (by omega)]at l1 l2;have a1:=gz 5 6;have a1:mf (.int 5) (.int 6)=some (.int 11):=a1;have e:xo [.str (Str.ofString "so"),.str l,.str k,.str r,.list (fs.map .str)]=some d:=e;refine bQ ?_;show bG _ _ [~~~.str x,none]=_;rw[aG (au:=[~~~.str x,~~~.list ((sS::l::k::r::sF::fs).map .str)]) (by
   generalize (sS::l::k::r::sF::fs).map Dat.str=Jv at *;generalize Dat.str x=dx at *;dsimp![eD,ew])]
  generalize Dat.list ((sS::l::k::r::sF::fs).map .str)=kU at *;generalize Dat.list (fs.map .str)=d1 at *;generalize ((5+fs.length:Nat):Int)=m5 at *;generalize Dat.str sS=dg at *;generalize Dat.str sF=df at *;generalize Dat.str l=dl at *;generalize Dat.str k=dk at *;generalize Dat.str r=dr at *;generalize Dat.str x=dx at *;rw[aG (au:=[~~~(dx),~~~(kU)]) (by dsimp![i0,q0])];refine d9 ?_;dsimp![ia,i0,i1,i2,i3,i4,lp,q1,q2,l1,l2,a1,o9,dI,eE,kg,sl,e]
 ·have ew:=sE (ys:=[n]) (y:=sA) hx (by
   intro z hz;simp only[mem_cons,not_mem_nil,or_false]at hz;rcases hz with rfl|rfl
   ·exact(by decide +kernel:32∉tl sA)
   ·exact hn) hl
  rw[map_cons,map_cons,map_nil]at ew;have lp:dC [.list [.str sA,.str n]]=some (.int 2):=rfl;have i0:bu (.list [.str sA,.str n]) (.int 0)=some (.str sA):=rfl;have i1:bu (.list [.str sA,.str n]) (.int 1)=some (.str n):=rfl;have q0:d8 (.str sA) (.str "given")=some (.bool false):=rfl;have q1:d8 (.str sA) (.str "so")=some (.bool false):=rfl;have q2:d8 (.str sA) (.str "ask")=some (.bool true):=rfl;have q4:=bV 2 2;rw[decide_eq_true rfl]at q4;refine bQ ?_;show bG _ _ [~~~.str x,none]=some (.rt (.tuple [.str (Str.ofString "ask"),.str n]));generalize Dat.str sA=dg at *;generalize Dat.str n=dn at *;generalize Dat.str x=dx at *;rw[aG (au:=[~~~(dx),~~~.list [dg,dn]]) (by dsimp![eD,ew])];generalize Dat.list [dg,dn]=kU at *;rw[aG (au:=[~~~(dx),~~~(kU)]) (by dsimp![i0,q0])];rw[aG (au:=[~~~(dx),~~~(kU)]) (by dsimp![i0,q1])];refine d9 ?_;dsimp![i0,i1,lp,q2,q4,e,z2]
noncomputable def qw (acc:List Str) (t:Tm):List Str:=match t.1 with
 |some x=>if acc.contains x=true then acc else acc++[x]
 |none=>acc
noncomputable abbrev eu (ns:List Str) (ts:List Tm):List Str:=ts.foldl qw ns
theorem KN(acc:List Str)(t:Tm):(qw acc t).length<=acc.length+1:=by
 unfold qw;split
 ·split
  ·omega
  ·rw[length_append];exact le_refl _
 ·omega
variable {z:aD->Option aD}
theorem jd{g:aD->Option Fl}(h:g Γ=some (.nx au)):vf g z Γ=z au:=by unfold vf;rw[h];rfl
variable {i:Nat}
theorem Kh{N:List Str}{es:List Dat}(h:z (bY N ds)=some au)(h2:au[i]?=some (some (.own es))):Gq N i z ds=some es:=by
 unfold Gq;rw[h,Option.bind_some,h2]
abbrev SX (F:List Dat->Option (List Dat)):Prop:=∀(ns:List Str) (ts:List Tm),ns.length+ts.length<=900->F [.list (ns.map .str),.list (ts.map bK)]=some ((eu ns ts).map .str)
abbrev PC (F:List Dat->Option Dat):Prop:=∀(ns:List Str) (ts:List Tm),ns.length+ts.length<=900->F [.list (ns.map .str),.list (ts.map bK)]=some (.list ((eu ns ts).map .str))
theorem Lo(T:TX mg)(U:FnAt K mg "names_with" (top 40) ["names","terms"]):
  ∃F,sD P w K mg base 1 "names_with" ["names","terms"] 2 F/\SX F:=by
 refine⟨_,Uo ["names","terms","known","name","number"] 2 U λnd _ _ _ _ _ _ _ hr=>(jf (iy 2 nd (Dm T.list (af (ae 0) ah)))
  (jf (l4 PassesOwn.never rfl (ae 1) (sU (n:=2) rfl (gL (bp 3 nd) (gL (bp 4 nd) nO)))
  (aw (aH (cE (cz (Dl (ae 3) mJ) (cX (iA (ae 3) (ae 2))))) (aw (gU 2 (ae 3))) aE)))
  (MH 2))),?_⟩
 intro ns ts hl;have li:C5 [.list (ns.map .str)]=some (ns.map .str):=rfl;suffices hz:∃y3 y4:Option Slot,vf _ _ [~~~.list (ns.map .str),~~~.list (ts.map bK),none,none,none]=some [~~~.list (ns.map .str),~~~.list (ts.map bK),some (.own ((eu ns ts).map .str)),y3,y4]from by
  obtain⟨y3,y4,hz⟩:=hz;exact Kh hz rfl
 rw[jd (au:=[~~~.list (ns.map .str),~~~.list (ts.map bK),some (.own (ns.map .str)),none,none]) (by
  generalize Dat.list (ts.map bK)=fX at *;generalize ns.map Dat.str=cH at *;dsimp![li])]
 have lp:∀(us:List Tm) (acc:List Str) (x3 x4:Option Slot),acc.length+us.length<=900->∃y3 y4,forL (qN 2 (mE (aName 3) (mE (aName 4) vS))) (eI (kD (aZ (L3.f2 uh (aj 3) (fC .none))) (aZ (L3.f2 f7 (aj 3) (aj 2)))) (lZ 2 (aj 3)) dX) (us.map bK) [~~~.list (ns.map .str),~~~.list (ts.map bK),some (.own (acc.map .str)),x3,x4]=some (.nx [~~~.list (ns.map .str),~~~.list (ts.map bK),some (.own ((eu acc us).map .str)),y3,y4]):=by
  intro us;induction us with
  |nil=>exact λacc x3 x4 _=>⟨x3,x4,rfl⟩
  |cons t us ih=>
   intro acc x3 x4 ha;rw[length_cons]at ha;have h1:=KN acc t;obtain⟨y3,y4,e⟩:=ih (qw acc t) (some (.ag (eU t.1))) (some (.ag (aW t.2))) (by omega);refine⟨y3,y4,?_⟩;show forL _ _ (bK t::us.map bK) _=_;have zl:(acc.map Dat.str).length<sizeLine:=by rw[length_map];exact bC (by omega)
   have step:(eI (kD (aZ (L3.f2 uh (aj 3) (fC .none))) (aZ (L3.f2 f7 (aj 3) (aj 2)))) (lZ 2 (aj 3)) dX) [~~~.list (ns.map .str),~~~.list (ts.map bK),some (.own (acc.map .str)),~~~(eU t.1),~~~(aW t.2)]=some (.nx [~~~.list (ns.map .str),~~~.list (ts.map bK),some (.own ((qw acc t).map .str)),~~~(eU t.1),~~~(aW t.2)]):=by
    obtain⟨o,q⟩:=t;generalize aW (o,q).2=dq;generalize Dat.list (ns.map .str)=cH;generalize Dat.list (ts.map bK)=fX;cases o with
    |none=>
     have n1:uh .none .none=some (.bool false):=rfl;show _=some (Fl.nx [~~~(cH),~~~(fX),some (.own (acc.map .str)),~~~.none,~~~(dq)]);show eI _ _ _ [~~~(cH),~~~(fX),some (.own (acc.map .str)),~~~.none,~~~(dq)]=_;generalize acc.map Dat.str=da at *;dsimp![n1]
    |some x=>
     have n1:uh (.str x) .none=some (.bool true):=rfl;have n2:=k7 x acc;show eI _ _ _ [~~~(cH),~~~(fX),some (.own (acc.map .str)),~~~.str x,~~~(dq)]=some (Fl.nx [~~~(cH),~~~(fX),some (.own ((qw acc (some x,q)).map .str)),~~~.str x,~~~(dq)]);unfold qw;dsimp only;cases hc:acc.contains x with
     |true=>
      rw[hc]at n2;rw[if_pos rfl];generalize acc.map Dat.str=da at *;generalize Dat.str x=dx at *;dsimp![n1,n2]
     |false=>
      rw[hc]at n2;rw[if_neg Bool.false_ne_true,map_append,map_cons,map_nil];generalize acc.map Dat.str=da at *;generalize Dat.str x=dx at *;dsimp![n1,n2,zl]
   refine Eq.trans ?_ e;show(forL _ _ (bK t::us.map bK) _)=_;show((some [(3,eU t.1),(4,aW t.2)]).bind _)=_;rw[Option.bind_some];show((eI _ _ _ [~~~.list (ns.map .str),~~~.list (ts.map bK),some (.own (acc.map .str)),~~~(eU t.1),~~~(aW t.2)]).bind _)=_;rw[step];rfl
 obtain⟨y3,y4,e⟩:=lp ts ns none none (by omega);refine⟨y3,y4,(jd (au:=[~~~.list (ns.map .str),~~~.list (ts.map bK),some (.own ((eu ns ts).map .str)),y3,y4]) ?_).trans ?_⟩
 ·exact e
 ·rfl
noncomputable def lz (nm:Option Str):(Int×Int)->List Tm->Int×Int
 |acc,[]=>acc
 |acc,t::ts=>if t.1=nm then lz nm (acc.1*t.2.2+t.2.1*acc.2,acc.2*t.2.2) ts else lz nm acc ts
theorem Mx(N D r s:Int)(hD:0<D)(hs:0<s):eP ((eP N D).1*s+r*(eP N D).2) ((eP N D).2*s)=eP (N*s+r*D) (D*s):=by
 have hp:0<Fr.den N D:=Fr.den_pos (by omega);have hc:=Fr.Cp N D;have h1:(Fr.den N D)*s≠0:=Int.ne_of_gt (mul_pos hp hs);have h2:D*s≠0:=Int.ne_of_gt (mul_pos hD hs);have e:(Fr.num N D*s+r*Fr.den N D)*(D*s)=(N*s+r*D)*(Fr.den N D*s):=by
  have x1:Fr.num N D*s*(D*s)=Fr.num N D*D*(s*s):=by
   rw[mul_assoc,mul_assoc,Int.mul_left_comm s D s]
  have x2:N*s*(Fr.den N D*s)=Fr.den N D*N*(s*s):=by
   rw[mul_assoc N,Int.mul_left_comm s,<- mul_assoc,mul_comm N]
  have x3:r*Fr.den N D*(D*s)=r*D*(Fr.den N D*s):=by
   rw[mul_assoc,mul_assoc,Int.mul_left_comm (Fr.den N D)]
  rw[Int.add_mul,Int.add_mul,x1,x2,x3,hc]
 obtain⟨a,b⟩:=Fr.congr h1 h2 e;exact Prod.ext a b
noncomputable abbrev oj (nm:Option Str) (ts:List Tm):Int×Int:=eP (lz nm (0,1) ts).1 (lz nm (0,1) ts).2
theorem xZ(nm:Option Str):∀(ts:List Tm) (acc:Int×Int) (k:Nat),(∀t∈ts,Pd t.2)->0<acc.2->acc.2.natAbs<=10^(6*k)->0<(lz nm acc ts).2/\(lz nm acc ts).2.natAbs<=10^(6*(k+ts.length))
 |[],acc,k,_,h0,h1=>⟨h0,h1⟩
 |t::ts,acc,k,hp,h0,h1=>by
  have ht:=hp t mem_cons_self;have nA:=λu hu=>hp u (mem_cons_of_mem t hu);have ee:k+(t::ts).length=(k+1)+ts.length:=by rw[length_cons];omega
  rw[ee];show 0<(if t.1=nm then lz nm (acc.1*t.2.2+t.2.1*acc.2,acc.2*t.2.2) ts else lz nm acc ts).2/\(if t.1=nm then lz nm (acc.1*t.2.2+t.2.1*acc.2,acc.2*t.2.2) ts else lz nm acc ts).2.natAbs<=_;split
  ·refine xZ nm ts _ (k+1) nA (mul_pos h0 ht.pos) ?_;show(acc.2*t.2.2).natAbs<=10^(6*(k+1));rw[natAbs_mul,show 6*(k+1)=6*k+6 by omega,Nat.pow_add];exact Nat.mul_le_mul h1 (le_of_lt (lt_of_lt_of_le ht.ld (by decide)))
  ·obtain⟨a,b⟩:=xZ nm ts acc (k+1) nA h0 (le_trans h1 (Nat.pow_le_pow_right (by decide) (by omega)));exact⟨a,b⟩
theorem Iu{N D:Int}(h0:0<D)(h1:D.natAbs<10^590):Lg (eP N D):=⟨Fr.den_pos (by omega),lt_of_le_of_lt (Fr.uU (by omega)) h1⟩
theorem IC{k:Nat}(h:n<=10^(6*k))(hk:k<=98):n<10^590:=lt_of_le_of_lt h (Nat.pow_lt_pow_right (by decide) (by omega))
theorem OB(a b:Option Str)(ha:∀x,a=some x->PyData.strOk x=true)(hb:∀x,b=some x->PyData.strOk x=true):jN (eU a) (eU b)=some (.bool (decide (a=b))):=by
 have h1:kqdOk 9 (eU a)=true:=by
  cases a with
  |none=>rfl
  |some x=>exact ha x rfl
 have h2:kqdOk 9 (eU b)=true:=by
  cases b with
  |none=>rfl
  |some x=>exact hb x rfl
 unfold jN;rw[Lc h1 h2];by_cases h:a=b
 ·rw[zO (by rw[h]),decide_eq_true h];rfl
 ·rw[zQ (λz=>h (by
   cases a with
   |none=>cases b with
    |none=>rfl
    |some y=>cases z
   |some x=>cases b with
    |none=>cases z
    |some y=>injection z with z;rw[z])),decide_eq_false h];rfl
abbrev qR (t:Tm):Prop:=∀x,t.1=some x->PyData.strOk x=true
abbrev SS (F:List Dat->Option Dat):Prop:=∀(nm:Option Str) (ts:List Tm),(∀x,nm=some x->PyData.strOk x=true)->(∀t∈ts,qR t)->(∀t∈ts,Pd t.2)->ts.length<=98->F [eU nm,.list (ts.map bK)]=some (aW (oj nm ts))
theorem HG(T:TX mg)(R:RX P w K mg){Fp:List Dat->Option Dat}(Rb:Dn P w K mg base 3 "plus" ["a","b"] 2 Fp)(hP:SU Fp)(U:FnAt K mg "part_of" (top 44) ["name","terms"]):
  ∃F,Dn P w K mg base 4 "part_of" ["name","terms"] 2 F/\SS F:=by
 refine⟨_,ek ["name","terms","total","other","number"] U λnd _ _ _ _ _ _ _ hr=>(ao (az 2 nd (il R.zr.choose_spec.mg R.zr.choose_spec.tup))
  (ao (l4 PassesOwn.never rfl (ae 1) (sU (n:=2) rfl (gL (bp 3 nd) (gL (bp 4 nd) nO)))
  (aw (aH (GB hr (ae 3) (ae 0)) (aw (az 2 nd (aL Rb hr (af (ae 2) (af (ae 4) ah))))) aE)))
  (aw (aN (ae 2))))),?_⟩
 intro nm ts iP NM J0 hlen;refine bQ ?_;show bG _ _ [~~~(eU nm),~~~.list (ts.map bK),none,none,none]=_;rw[aG (au:=[~~~(eU nm),~~~.list (ts.map bK),~~~(aW (eP 0 1)),none,none]) rfl];have lp:∀(us:List Tm) (acc:Int×Int) (k:Nat) (x3 x4:Option Slot),(∀t∈us,qR t)->(∀t∈us,Pd t.2)->0<acc.2->acc.2.natAbs<=10^(6*k)->k+us.length<=98->∃y3 y4,forL (qN 2 (mE (aName 3) (mE (aName 4) vS))) (eI (aZ (L3.f2 jN (aj 3) (aj 0))) (cW 2 (cu 2 Fp (ax (aj 2) (ax (aj 4) aK)))) dX) (us.map bK) [~~~(eU nm),~~~.list (ts.map bK),~~~(aW (eP acc.1 acc.2)),x3,x4]=some (.nx [~~~(eU nm),~~~.list (ts.map bK),~~~(aW (eP (lz nm acc us).1 (lz nm acc us).2)),y3,y4]):=by
  intro us;induction us with
  |nil=>exact λacc k x3 x4 _ _ _ _ _=>⟨x3,x4,rfl⟩
  |cons t us ih=>
   intro acc k x3 x4 hok J0 h0 h1 hk;rw[length_cons]at hk;have Cb:=λv hv=>hok v (mem_cons_of_mem t hv);have NT:=λv hv=>J0 v (mem_cons_of_mem t hv);have q:=OB t.1 nm (hok t mem_cons_self) iP;have ht:=J0 t mem_cons_self;by_cases h:t.1=nm
   ·have hb:(acc.2*t.2.2).natAbs<=10^(6*(k+1)):=by
     rw[natAbs_mul,show 6*(k+1)=6*k+6 by omega,Nat.pow_add];exact Nat.mul_le_mul h1 (le_of_lt (lt_of_lt_of_le ht.ld (by decide)))
    obtain⟨y3,y4,e⟩:=ih (acc.1*t.2.2+t.2.1*acc.2,acc.2*t.2.2) (k+1) (some (.ag (eU t.1))) (some (.ag (aW t.2))) Cb NT (mul_pos h0 ht.pos) hb (by omega);refine⟨y3,y4,?_⟩;have ef:lz nm acc (t::us)=lz nm (acc.1*t.2.2+t.2.1*acc.2,acc.2*t.2.2) us:=if_pos h;rw[ef];refine Eq.trans ?_ e;show((some [(3,eU t.1),(4,aW t.2)]).bind _)=_;rw[Option.bind_some];have ep:=hP (eP acc.1 acc.2) t.2 (Iu h0 (IC h1 (by omega))) (Vv ht);rw[Mx _ _ _ _ h0 ht.pos]at ep;have step:(eI (aZ (L3.f2 jN (aj 3) (aj 0))) (cW 2 (cu 2 Fp (ax (aj 2) (ax (aj 4) aK)))) dX) [~~~(eU nm),~~~.list (ts.map bK),~~~(aW (eP acc.1 acc.2)),~~~(eU t.1),~~~(aW t.2)]=some (.nx [~~~(eU nm),~~~.list (ts.map bK),~~~(aW (eP (acc.1*t.2.2+t.2.1*acc.2) (acc.2*t.2.2))),~~~(eU t.1),~~~(aW t.2)]):=by
     rw[decide_eq_true h]at q;generalize aW (eP (acc.1*t.2.2+t.2.1*acc.2) (acc.2*t.2.2))=d2 at *;generalize aW (eP acc.1 acc.2)=d1 at *;generalize aW t.2=dt at *;generalize eU t.1=dn at *;generalize eU nm=dm at *;generalize Dat.list (ts.map bK)=fX at *;dsimp![q,ep]
    show(eI (aZ (L3.f2 jN (aj 3) (aj 0))) (cW 2 (cu 2 Fp (ax (aj 2) (ax (aj 4) aK)))) dX [~~~(eU nm),~~~.list (ts.map bK),~~~(aW (eP acc.1 acc.2)),~~~(eU t.1),~~~(aW t.2)]).bind _=_;rw[step];rfl
   ·obtain⟨y3,y4,e⟩:=ih acc (k+1) (some (.ag (eU t.1))) (some (.ag (aW t.2))) Cb NT h0 (le_trans h1 (Nat.pow_le_pow_right (by decide) (by omega))) (by omega);refine⟨y3,y4,?_⟩;have ef:lz nm acc (t::us)=lz nm acc us:=if_neg h;rw[ef];refine Eq.trans ?_ e;show((some [(3,eU t.1),(4,aW t.2)]).bind _)=_;rw[Option.bind_some];have step:(eI (aZ (L3.f2 jN (aj 3) (aj 0))) (cW 2 (cu 2 Fp (ax (aj 2) (ax (aj 4) aK)))) dX) [~~~(eU nm),~~~.list (ts.map bK),~~~(aW (eP acc.1 acc.2)),~~~(eU t.1),~~~(aW t.2)]=some (.nx [~~~(eU nm),~~~.list (ts.map bK),~~~(aW (eP acc.1 acc.2)),~~~(eU t.1),~~~(aW t.2)]):=by
     rw[decide_eq_false h]at q;generalize aW (eP acc.1 acc.2)=d1 at *;generalize aW t.2=dt at *;generalize eU t.1=dn at *;generalize eU nm=dm at *;generalize Dat.list (ts.map bK)=fX at *;dsimp![q]
    show(eI (aZ (L3.f2 jN (aj 3) (aj 0))) (cW 2 (cu 2 Fp (ax (aj 2) (ax (aj 4) aK)))) dX [~~~(eU nm),~~~.list (ts.map bK),~~~(aW (eP acc.1 acc.2)),~~~(eU t.1),~~~(aW t.2)]).bind _=_;rw[step];rfl
 obtain⟨y3,y4,e⟩:=lp ts (0,1) 0 none none NM J0 (by decide) (by decide) (by omega);refine(aG (au:=[~~~(eU nm),~~~.list (ts.map bK),~~~(aW (oj nm ts)),y3,y4]) ?_).trans ?_
 ·exact e
 ·exact gj rfl
variable {d:Dat} {as:dH}
theorem vJ{gb:aD->Option Fl}(h1:gt d=some as)(h2:gb (setG Γ as)=some (.nx au)):forL gt gb (d::ds) Γ=forL gt gb ds au:=by
 show(gt d).bind _=_;rw[h1];show(gb (setG Γ as)).bind _=_;rw[h2];rfl
theorem oV{gb:aD->Option Fl}{f:ay->Option Dat}(hf:f (dD Γ)=some d)(hi:j8 d=some ds):BX gt gb f Γ=forL gt gb ds Γ:=by
 unfold BX;rw[hf];show(j8 d).bind _=_;rw[hi];rfl
noncomputable abbrev Dr:=Str×Str×List Tm×List Nat
noncomputable abbrev dQ (ns:List Nat):List Dat:=ns.map λn:Nat=>Dat.int (n:Int)
noncomputable abbrev aI (d:Dr):Dat:=.tuple [.str d.1,.str d.2.1,.list (d.2.2.1.map bK),.list (dQ d.2.2.2)]
abbrev kh (a:Str):Prop:=a=sG\/a=sS
theorem pQ(d:Dr):bu (aI d) (.int 0)=some (.str d.1):=rfl
theorem XS(d:Dr):bu (aI d) (.int 1)=some (.str d.2.1):=rfl
theorem ES(d:Dr):bu (aI d) (.int 2)=some (.list (d.2.2.1.map bK)):=rfl
theorem OM(d:Dr):bu (aI d) (.int 3)=some (.list (dQ d.2.2.2)):=rfl
noncomputable def gB (a:Str):Nat:=if a=sG then 8 else 12
abbrev PU (F:List Dat->Option Dat):Prop:=∀(d:Dr) (ab:List Dr) (ns:List Str),kh d.1->ab.length<=100->(ab.filter λe=>decide (e.1=d.1)).length<gB d.1->ns.length+d.2.2.1.length<=900->(eu ns d.2.2.1).length<=3->F [aI d,.list (ab.map aI),.list (ns.map .str)]=some .none
theorem E5(h:kh a):td IQ (.str a)=some (.int (gB a:Int)):=by
 rcases h with e|e<;>subst e<;>rfl
variable {N:List Str}
theorem rp{g:aD->Option Fl}(h:g (bY N ds)=some (.nx Γ)):gq N g ds=some .none:=by unfold gq;rw[h]
theorem Lu(T:TX mg)(R:RX P w K mg)(gW:Dn P w K mg base 1 "names_with" ["names","terms"] 2 Fn)(hN:PC Fn)(U:FnAt K mg "check_room" (top 41) ["draft","above","names"]):
  ∃F,Dn P w K mg base 2 "check_room" ["draft","above","names"] 3 F/\PU F:=by
 refine⟨_,ek ["draft","above","names","word"] U λnd _ _ _ _ _ _ _ hr=>(ao (az 3 nd (aB (ae 0) ai))
  (ao (aH (aX hr (aY T.len (af (dj (fK rfl (iU (tn:=["other"]) (fv:=["word"]) (js:=[3]) rfl (by decide +kernel) (by decide +kernel) rfl (by decide +kernel) (by decide +kernel) rfl
   (λx hx=>by((have jF:x="word":=(by simpa using hx));(rcases jF with rfl<;>exact⟨_,rfl⟩)))
   (λp hp=>by((have jr:p=(("word" : Str),(3:Nat)):=(by simpa using hp));(rcases jr with rfl<;>exact⟨rfl,.inr (.inl rfl),.inl rfl,λz=>by cases z⟩)))) (ae 1) (λ_ _ _ _=>(bp 0 (show(["other","word"]:List Str).Nodup by decide +kernel))) (λ_ _ _ _=>(gK (aX hr (aB (ae 0) ai) (ae 1)))) (λ_ _ _ _=>(ae 0)) (cY rfl))) ah)) (mZ R.mo (ae 3))) (aw bS) aE)
  (aw (aH (dP (aY T.len (af (aL gW hr (af (ae 2) (af (aB (ae 0) ai) ah (hs:=aJ)))) ah (hs:=bf))) (eT R.mn)) (aw bS) aE)))),?_⟩
 intro d ab ns hk WQ Cg hsz iP;have em:=E5 hk;have e0:=pQ d;have e2:=ES d;have eN:=hN ns d.2.2.1 hsz;have ec:cL (aName 0) (aZ (L3.f2 d8 (L3.f2 bu (aj 0) (fC (.int 0))) (aj 1))) (aj 0) [none,some (.str d.1)] (ab.map aI)=some ((ab.filter λe=>decide (e.1=d.1)).map aI):=
  gQ aI aI (λe=>decide (e.1=d.1)) ab λe he=>⟨[(0,aI e)],rfl,by
   have h0:=pQ e;have q:=iI e.1 d.1;generalize decide (e.1=d.1)=b at *;generalize aI e=de at *;generalize Dat.str e.1=d1 at *;generalize Dat.str d.1=d2 at *;dsimp![h0,q],λ_=>rfl⟩
 have hz:(ab.map aI).length<sizeLine:=by rw[length_map];exact bC (by omega)
 have ef:fL (d7 [none,some 3] (aName 0) (aZ (L3.f2 d8 (L3.f2 bu (aj 0) (fC (.int 0))) (aj 1))) (aj 0) (aj 1)) [some (aI d),some (.list (ab.map aI)),some (.list (ns.map .str)),some (.str d.1)]=some (.list ((ab.filter λe=>decide (e.1=d.1)).map aI)):=iG (d:=.list (ab.map aI)) (ds:=ab.map aI) rfl rfl hz ec;have l1:dC [.list ((ab.filter λe=>decide (e.1=d.1)).map aI)]=some (.int ((ab.filter λe=>decide (e.1=d.1)).length:Int)):=by
  show some (Dat.int _)=_;rw[length_map]
 have q1:=bV ((ab.filter λe=>decide (e.1=d.1)).length:Int) (gB d.1:Int);rw[decide_eq_false (by omega)]at q1;have l2:dC [.list ((eu ns d.2.2.1).map .str)]=some (.int ((eu ns d.2.2.1).length:Int)):=by
  show some (Dat.int _)=_;rw[length_map]
 have g1:=cK ((eu ns d.2.2.1).length:Int) 3;rw[decide_eq_false (by omega)]at g1;clear ec hz;generalize (gB d.1:Int)=m at *;generalize ((ab.filter λe=>decide (e.1=d.1)).length:Int)=n1 at *;generalize ((eu ns d.2.2.1).length:Int)=n2 at *;generalize Dat.list ((ab.filter λe=>decide (e.1=d.1)).map aI)=OR at *;generalize Dat.list ((eu ns d.2.2.1).map .str)=XU at *;generalize Dat.list (d.2.2.1.map bK)=fX at *;generalize aI d=dd at *;generalize Dat.str d.1=da at *;generalize Dat.list (ab.map aI)=ju at *;generalize Dat.list (ns.map .str)=cH at *;refine rp (Γ:=[~~~(dd),~~~(ju),~~~(cH),~~~(da)]) ?_;show bG _ _ [~~~(dd),~~~(ju),~~~(cH),none]=_;rw[aG (au:=[~~~(dd),~~~(ju),~~~(cH),~~~(da)]) (by dsimp![e0])];have et:aZ (L3.f2 d8 (dJ dC (ax (fL (d7 [none,some 3] (aName 0) (aZ (L3.f2 d8 (L3.f2 bu (aj 0) (fC (.int 0))) (aj 1))) (aj 0) (aj 1))) aK)) (L3.f1 (td IQ) (aj 3))) (bo [~~~(dd),~~~(ju),~~~(cH),~~~(da)])=some false:=by
  generalize fL (d7 [none,some 3] (aName 0) (aZ (L3.f2 d8 (L3.f2 bu (aj 0) (fC (.int 0))) (aj 1))) (aj 0) (aj 1))=fx at *;dsimp![ef,l1,em,q1]
 refine(aG (au:=[~~~(dd),~~~(ju),~~~(cH),~~~(da)]) ((je et).trans rfl)).trans ?_;dsimp![e2,eN,l2,g1]
structure FY (ns:List Nat) (n:Nat):Prop where
 nd:ns.Nodup
 lo:∀m∈ns,1<=m
 hi:∀m∈ns,m<=n
variable {m:Nat}
theorem HM{ns:List Nat}(h:ns.Nodup):∃c:Int,c<=1/\oI (.list (dQ ns)) [.int (m:Int)]=some (.int c):=by
 refine⟨((dQ ns).countP λz=>kT z (.int (m:Int)):Nat),?_,if_pos ⟨rfl,?_⟩⟩
 ·rw[List.countP_map];have:ns.countP ((λz=>kT z (.int (m:Int))) ∘ λn:Nat=>Dat.int (n:Int))=ns.count m:=by
   show _=ns.countP (· == m);refine List.countP_congr λa _=>?_;show(decide ((a:Int)=(m:Int)))=true↔_;simp;omega
  rw[this];have:=(List.nodup_iff_count.mp h) m;omega
 ·rw[List.all_map,all_eq_true];exact λ_ _=>rfl
abbrev TN (F:List Dat->Option Dat):Prop:=∀(ns:List Nat) (ab:List Dr),FY ns ab.length->ns.length<=100->F [.list (dQ ns),.list (ab.map aI)]=some .none
theorem OZ(T:TX mg)(U:FnAt K mg "check_numbers" (top 42) ["numbers","above"]):
  ∃F,Dn P w K mg base 1 "check_numbers" ["numbers","above"] 2 F/\TN F:=by
 refine⟨_,ek ["numbers","above","number"] U λnd _ _ _ _ _ _ _ hr=>(aw (l4 PassesOwn.never rfl (ae 0) (bp 2 nd)
  (ao (aH (dM (gh ai (ae 2) (aY T.len (af (ae 1) ah)))) (aw bS) aE)
  (aw (aH (dP (qo (ae 0) (af (ae 2) ah)) ai) (aw bS) aE))))),?_⟩
 intro ns ab h hl;have l1:dC [.list (ab.map aI)]=some (.int (ab.length:Int)):=by
  show some (Dat.int _)=_;rw[length_map]
 suffices hz:∃au,BX _ _ _ [~~~.list (dQ ns),~~~.list (ab.map aI),none]=some (.nx au)/\True from by
  obtain⟨au,e,_⟩:=hz;exact rp e
 rw[oV (d:=.list (dQ ns)) (ds:=dQ ns) rfl rfl];obtain⟨au,e,_⟩:=tf (enc:=λn:Nat=>Dat.int (n:Int)) (gt:=aName 2) (gb:=bG (eI (gZ (aZ (ia rZ rZ (fC (.int 1)) (aj 2) (dJ dC (ax (aj 1) aK))))) qe dX) (eI (aZ (L3.f2 wR (fP oI (aj 0) (ax (aj 2) aK)) (fC (.int 1)))) qe dX)) (λl Γ=>(∀m∈l,m∈ns)/\∃x2,Γ=[~~~.list (dQ ns),~~~.list (ab.map aI),x2]) (by
  rintro m l Γ ⟨hm,x2,rfl⟩;refine⟨[(2,.int (m:Int))],rfl,[~~~.list (dQ ns),~~~.list (ab.map aI),~~~.int (m:Int)],?_,λx hx=>hm x (mem_cons_of_mem _ hx),_,rfl⟩;have RV:=hm m mem_cons_self;have h1:=h.lo m RV;have h2:=h.hi m RV;have a1:=dE 1 (m:Int);have a2:=dE (m:Int) (ab.length:Int);rw[decide_eq_true (by omega)]at a1 a2;obtain⟨c,hc,ec⟩:=HM (m:=m) h.nd;have g1:=cK c 1;rw[decide_eq_false (by omega)]at g1;show bG _ _ [~~~.list (dQ ns),~~~.list (ab.map aI),~~~.int (m:Int)]=_;generalize Dat.list (ab.map aI)=ju at *;generalize (ab.length:Int)=n at *;generalize Dat.list (dQ ns)=cH at *;generalize (m:Int)=mm at *;rw[aG (au:=[~~~(cH),~~~(ju),~~~.int mm]) (by dsimp![ia,l1,a1,a2])];dsimp![ec,g1]) ns [~~~.list (dQ ns),~~~.list (ab.map aI),none] ⟨λm hm=>hm,none,rfl⟩
 exact⟨au,e,trivial⟩
structure Yy (d:Dr) (ab:List Dr) (ns:List Str):Prop where
 k:kh d.1
 ka:∀e∈ab,kh e.1
 l:ab.length<=100
 c:(ab.filter λe=>decide (e.1=d.1)).length<gB d.1
 z:ns.length+d.2.2.1.length<=900
 n:(eu ns d.2.2.1).length<=3
 o:FY d.2.2.2 ab.length
 m:d.2.2.2.length<=100
noncomputable abbrev cw (n:Str):Dat:=.tuple [.str sA,.str n]
structure TU (F:List Dat->Option Dat):Prop where
 ak:∀(n:Str) (ab:List Dr) (ns:List Str),(∀e∈ab,kh e.1)->n∈ns->F [cw n,.list (ab.map aI),.list (ns.map .str)]=some .none
 ln:∀(d:Dr) (ab:List Dr) (ns:List Str),Yy d ab ns->F [aI d,.list (ab.map aI),.list (ns.map .str)]=some .none
theorem lM(h:kh a):d8 (.str a) (.str "ask")=some (.bool false)/\gi (.str a) (.str "ask")=some (.bool true):=by
 rcases h with e|e<;>subst e<;>exact⟨rfl,rfl⟩
theorem tw{ab:List Dr}(ka:∀e∈ab,kh e.1)(dd cH:Dat):eI (kD (ja (aj 1)) (aZ (L3.f2 d8 (L3.f2 bu (L3.f2 bu (aj 1) (L3.f1 qx (fC (.int 1)))) (fC (.int 0))) (fC (.str "ask"))))) qe dX [~~~(dd),~~~.list (ab.map aI),~~~(cH)]=some (.nx [~~~(dd),~~~.list (ab.map aI),~~~(cH)]):=by
 cases hb:ab with
 |nil=>dsimp![]
 |cons e es=>
  obtain⟨n,hn⟩:∃n,(e::es).length=n+1:=⟨es.length,rfl⟩;have hg:(e::es)[n]?=some (e::es)[n]:=getElem?_eq_getElem (by omega);have el:bu (.list ((e::es).map aI)) (.int (-1))=some (aI (e::es)[n]):=by
   show iZ ((e::es).map aI) (-1)=_;unfold iZ sd;rw[if_neg (by decide),length_map,if_pos (by omega),Option.bind_some];rw[show((-1:Int)+(((e::es).length:Nat):Int)).toNat=n by omega,getElem?_map,hg];rfl
  obtain⟨q2,_⟩:=lM (ka (e::es)[n] (by rw[hb];exact getElem_mem _));have e4:=pQ (e::es)[n];generalize aI (e::es)[n]=dl at *;generalize Dat.str (e::es)[n].1=da at *;rw[map_cons]at el ⊢;generalize aI e=de at *;generalize es.map aI=des at *;dsimp![el,e4,q2]
variable {Fr:List Dat->Option Dat}
theorem Lx(T:TX mg)(og:Dn P w K mg base 2 "check_room" ["draft","above","names"] 3 Fr)(hR:PU Fr)(vX:Dn P w K mg base 2 "check_numbers" ["numbers","above"] 2 Fn)(hN:TN Fn)(U:FnAt K mg "check" (top 43) ["draft","above","names"]):
  ∃F,Dn P w K mg base 3 "check" ["draft","above","names"] 3 F/\TU F:=by
 refine⟨_,ek ["draft","above","names"] U λnd _ _ _ _ _ _ _ hr=>(ao (aH (cE (cz (bM (ae 1)) (cX (aX hr (aB (aB (ae 1) (mK ai)) ai) ar)))) (aw bS) aE)
  (aw (aH (gH hr (aB (ae 0) ai) ar) (ao (lI (aL og hr (af (ae 0) (af (ae 1) (af (ae 2) ah)))))
  (aw (lI (aL vX hr (af (aB (ae 0) ai) (af (ae 1) ah) (hs:=aJ)))))) (aw (aH (iA (aB (ae 0) ai) (ae 2)) (aw bS) aE))))),?_⟩
 refine⟨λn ab ns ka hn=>?_,λd ab ns h=>?_⟩
 ·have e0:bu (cw n) (.int 0)=some (.str sA):=rfl;have e1:bu (cw n) (.int 1)=some (.str n):=rfl;have q1:gi (.str sA) (.str "ask")=some (.bool false):=rfl;have q2:=k7 n ns;rw[show ns.contains n=true from by simpa using hn]at q2;refine rp (Γ:=[~~~(cw n),~~~.list (ab.map aI),~~~.list (ns.map .str)]) ?_;show bG _ _ [~~~(cw n),~~~.list (ab.map aI),~~~.list (ns.map .str)]=_;rw[aG (tw ka _ _)];generalize cw n=dd at *;generalize Dat.str sA=da at *;generalize Dat.str n=dn at *;generalize Dat.list (ab.map aI)=ju at *;generalize Dat.list (ns.map .str)=cH at *;dsimp![e0,e1,q1,q2]
 ·have e0:=pQ d;have e3:=OM d;obtain⟨_,q1⟩:=lM h.k;have eR:=hR d ab ns h.k h.l h.c h.z h.n;have eN:=hN d.2.2.2 ab h.o h.m;refine rp (Γ:=[~~~(aI d),~~~.list (ab.map aI),~~~.list (ns.map .str)]) ?_;show bG _ _ [~~~(aI d),~~~.list (ab.map aI),~~~.list (ns.map .str)]=_;rw[aG (tw h.ka _ _)];generalize Dat.list (dQ d.2.2.2)=Ss at *;generalize aI d=dd at *;generalize Dat.str d.1=da at *;generalize Dat.list (ab.map aI)=ju at *;generalize Dat.list (ns.map .str)=cH at *;dsimp![e0,q1,eR,e3,eN]
noncomputable def A0:List Nat->Option (List Nat)
 |[]=>none
 |c::l=>if c=42 then some l else A0 l
theorem qL:∀{a r:List Nat},42∉a->A0 (a++42::r)=some r
 |[],r,_=>rfl
 |c::a,r,h=>by
  show(if c=42 then _ else _)=_;rw[if_neg (λz=>h (by rw[z];exact mem_cons_self))];exact qL λz=>h (mem_cons_of_mem _ z)
theorem qM:∀{l:List Nat},42∉l->A0 l=none
 |[],_=>rfl
 |c::l,h=>by
  show(if c=42 then _ else _)=_;rw[if_neg (λz=>h (by rw[z];exact mem_cons_self))];exact qM λz=>h (mem_cons_of_mem _ z)
noncomputable def fZ (t:Str):Str:=match A0 (tl t)with
 |some r=>nS r
 |none=>t
theorem Ph{t:Str}(h:Tok t):∃m k:Int,findD (.str t) [.str (Str.ofString "*")]=some (.int m)/\mf (.int m) (.int 1)=some (.int k)/\nZ (.str t) (some k) none=some (.str (fZ t))/\Tok (fZ t):=by
 by_cases hs:42∈tl t
 ·obtain⟨a,r,h4,h5⟩:=List.eq_append_cons_of_mem hs;have hl:t.length=a.length+(r.length+1):=by rw[<- bH,h4,length_append,length_cons]
  have ea:fZ t=nS r:=by unfold fZ;rw[h4,qL h5]
  obtain⟨B,eB,tB⟩:=jV (x:=t) (j:=a.length+1) (by omega) h.l;have tB:tl B=r:=by
   rw[tB,h4,show a.length+1=(a++[42]).length by rw[length_append];rfl,show a++42::r=(a++[42])++r by rw[append_assoc];rfl,drop_left]
  have hB:B=fZ t:=d6 (by rw[tB,ea,qX]);refine⟨(a.length:Int),((a.length+1:Nat):Int),?_,gz _ _,by rw[<- hB];exact eB,?_⟩
  ·show some (Dat.int (fndI t (Str.ofString "*")))=_;unfold fndI;rw[show(Str.ofString "*" : Str)=⟨#[42]⟩from me,Tx.occ_first h4 h5]
  ·rw[ea];exact⟨by have:=h.l;rw[<- bH,qX];omega,λd hd=>h.a d (by rw[qX]at hd;rw[h4];exact mem_append_right _ (mem_cons_of_mem _ hd))⟩
 ·have ea:fZ t=t:=by unfold fZ;rw[qM hs]
  obtain⟨B,eB,tB⟩:=jV (x:=t) (j:=0) (zero_le _) h.l;have hB:B=fZ t:=d6 (by rw[tB,ea];rfl);refine⟨-1,0,?_,rfl,by rw[<- hB];exact eB,by rw[ea];exact h⟩;show some (Dat.int (fndI t (Str.ofString "*")))=_;unfold fndI;rw[show(Str.ofString "*" : Str)=⟨#[42]⟩from me,Tx.DS hs]
noncomputable def fM (acc:List Str) (t:Str):List Str:=if gu (fZ t)&&!acc.contains (fZ t)then acc++[fZ t]else acc
theorem B4(acc:List Str)(t:Str):(fM acc t).length<=acc.length+1:=by
 unfold fM;split
 ·rw[length_append];exact le_refl _
 ·exact le_succ _
noncomputable def ff (x:Str):Int:=if fw x=true then(if 3<((cC x).foldl fM []).length then 3 else -1)else 1
abbrev Tp (F:List Dat->Option Dat):Prop:=∀x:Str,Tok x->F [.str x]=some (.int (ff x))
theorem OY(T:TX mg){Fg:List Dat->Option Dat}(LH:Dn P w K mg base 4 "_law_good" ["word"] 1 Fg)(hG:T5 Fg)(tJ:Dn P w K mg base 4 "_law_terms" ["word"] 1 Ft)(hL:PH Ft)(ig:Dn P w K mg base 4 "_law_good_name" ["word"] 1 Fn)(hN:JO Fn)(U:FnAt K mg "_law_due" (top 62) ["word"]):
  ∃F,Dn P w K mg base 5 "_law_due" ["word"] 1 F/\Tp F:=by
 refine⟨_,ek ["word","names","term","name"] U λnd _ _ _ _ _ _ _ hr=>(ao (aH (dM (bM (aL LH hr (af (ae 0) ah)))) (aw (aN ai)) aE)
  (ao (iy 1 nd (j6 ah))
  (ao (l4 PassesOwn.never rfl (aL tJ hr (af (ae 0) ah)) (bp 2 nd)
  (ao (az 3 nd (br (ae 2) (aV (fm (qpf_find (ae 2) (af ar ah)) ai)) bj))
  (aw (aH (cE (cz (bM (aL ig hr (af (ae 3) ah))) (cX (iA (ae 3) (ae 1))))) (aw (gU 1 (ae 3))) aE))))
  (aw (aN (aB (cq (af (mK ai) (af ai ah) (hs:=vo))) (pf T.int (af (MI (aY T.len (af (ae 1) ah)) ai) ah (hs:=oQ))))))))),?_⟩
 intro x hx;have i0:=hG x hx;have et:=hL x hx;have z0:0<=sizeLine:=zero_le _;have z2:2<=sizeLine:=sz (by decide);refine bQ ?_;show bG _ _ [~~~.str x,none,none,none]=_;unfold ff;cases hs:fw x with
 |false=>
  rw[hs]at i0;rw[if_neg (show ¬(false=true)from Bool.false_ne_true)];clear et;generalize Dat.str x=dx at *;refine d9 ?_;dsimp![i0]
 |true=>
  rw[hs]at i0;rw[if_pos (show true=true from rfl)];have hlen:(cC x).length<=4001:=by
   have h1:=mL (c:=43) (by decide) (pZ (ik x));have h2:=(oq (oi hx)).l;show(bE 43 (pZ (ik x))).length<=_;omega
  have ht:∀z∈cC x,Tok z:=λz hz=>jh (by decide) (oq (oi hx)) hz;have lp:∀(us:List Str) (acc:List Str) (x2 x3:Option Slot),acc.length+us.length<=4001->(∀t∈us,Tok t)->∃y2 y3,forL (aName 2) (bG (cW 3 (gD (aj 2) (dI (f2 mf (fP findD (aj 2) (ax (fC (Dat.str (Str.ofString "*"))) aK)) (fC (Dat.int 1)))) eE)) (eI (kD (ja (cu 1 Fn (ax (aj 3) aK))) (aZ (f2 f7 (aj 3) (aj 1)))) (lZ 1 (aj 3)) dX)) (us.map .str) [~~~.str x,some (.own (acc.map .str)),x2,x3]=some (.nx [~~~.str x,some (.own ((us.foldl fM acc).map .str)),y2,y3]):=by
   intro us;induction us with
   |nil=>exact λacc x2 x3 _ _=>⟨x2,x3,rfl⟩
   |cons t us ih=>
    intro acc x2 x3 ha hu;rw[length_cons]at ha;have h1:=B4 acc t;obtain⟨y2,y3,e⟩:=ih (fM acc t) (some (.ag (.str t))) (some (.ag (.str (fZ t)))) (by omega) (λz hz=>hu z (mem_cons_of_mem _ hz));refine⟨y2,y3,(vJ (as:=[(2,.str t)]) (au:=[~~~.str x,some (.own ((fM acc t).map .str)),~~~.str t,~~~.str (fZ t)]) rfl ?_).trans e⟩;obtain⟨m,k,f1,f2,f3,f4⟩:=Ph (hu t mem_cons_self);have n1:=hN (fZ t) f4.l f4.a;have n2:=k7 (fZ t) acc;have zl:(acc.map Dat.str).length<sizeLine:=by rw[length_map,sizeLine_eq];omega
    show bG _ _ [~~~.str x,some (.own (acc.map .str)),~~~.str t,x3]=_;unfold fM;generalize gu (fZ t)=b1 at *;generalize acc.contains (fZ t)=b2 at *;clear e ih i0 et;have em:∀z,(acc++[z]).map Dat.str=acc.map Dat.str++[Dat.str z]:=λz=>by rw[map_append];rfl
    rw[aG (au:=[~~~.str x,some (.own (acc.map .str)),~~~.str t,~~~.str (fZ t)]) (by
     clear n1 n2 zl em;generalize acc.map Dat.str=da at *;generalize Dat.str x=dx at *;generalize Dat.str t=dt at *;generalize Dat.str (fZ t)=d3 at *;dsimp![gD,dI,eE,kg,f1,f2,f3])]
    cases b1 with
    |false=>
     rw[if_neg (show ¬((false&&!b2)=true)from Bool.false_ne_true)];clear em;generalize acc.map Dat.str=da at *;generalize Dat.str x=dx at *;generalize Dat.str t=dt at *;generalize Dat.str (fZ t)=d3 at *;dsimp![n1]
    |true=>
     cases b2 with
     |true=>
      rw[if_neg (show ¬((true&&!true)=true) by decide)];clear em;generalize acc.map Dat.str=da at *;generalize Dat.str x=dx at *;generalize Dat.str t=dt at *;generalize Dat.str (fZ t)=d3 at *;dsimp![n1,n2]
     |false=>
      rw[if_pos (show(true&&!false)=true from rfl),em];clear em;generalize acc.map Dat.str=da at *;generalize Dat.str x=dx at *;generalize Dat.str t=dt at *;generalize Dat.str (fZ t)=d3 at *;dsimp![n1,n2,zl]
  obtain⟨y2,y3,e⟩:=lp (cC x) [] none none (by simpa using hlen) ht;rw[map_nil]at e;rw[aG (au:=[~~~.str x,none,none,none]) (by
   clear et e lp;generalize Dat.str x=dx at *;dsimp![i0])]
  rw[aG (au:=[~~~.str x,some (.own []),none,none]) (by
   clear et e lp;generalize Dat.str x=dx at *;dsimp![z0])]
  rw[aG (au:=[~~~.str x,some (.own (((cC x).foldl fM []).map .str)),y2,y3]) ((oV (d:=.list ((cC x).map .str)) (ds:=(cC x).map .str) (by
   clear e lp;generalize Dat.list ((cC x).map .str)=dl at *;generalize Dat.str x=dx at *;dsimp![et]) rfl).trans e)]
  clear e lp et;have fl:∀(us acc:List Str),(us.foldl fM acc).length<=acc.length+us.length:=by
   intro us;induction us with
   |nil=>exact λacc=>le_refl _
   |cons t us ih=>
     intro acc;have h1:=ih (fM acc t);have h2:=B4 acc t;rw[length_cons];show(us.foldl fM (fM acc t)).length<=_;omega
  have fl:=fl (cC x) [];generalize (cC x).foldl fM []=ns at *;have el:dC [.list (ns.map .str)]=some (.int (ns.length:Int)):=by
   show some (Dat.int ((ns.map Dat.str).length:Int))=_;rw[length_map]
  have g1:=cK (ns.length:Int) 3;have n1:qx (.int 1)=some (.int (-1)):=rfl;refine gj ?_;by_cases h3:3<ns.length
  ·rw[if_pos h3];rw[decide_eq_true (by omega)]at g1;have c1:L3.intD [.bool true]=some (.int 1):=rfl;have c2:bu (.list [.int (-1),.int 3]) (.int 1)=some (.int 3):=rfl;generalize ns.map Dat.str=dn at *;generalize (ns.length:Int)=n at *;generalize Dat.str x=dx at *;dsimp![el,g1,n1,c1,c2,z2]
  ·rw[if_neg h3];rw[decide_eq_false (by omega)]at g1;have c1:L3.intD [.bool false]=some (.int 0):=rfl;have c2:bu (.list [.int (-1),.int 3]) (.int 0)=some (.int (-1)):=rfl;generalize ns.map Dat.str=dn at *;generalize (ns.length:Int)=n at *;generalize Dat.str x=dx at *;dsimp![el,g1,n1,c1,c2,z2]
noncomputable abbrev ky (ns:List Str) (ts:List Tm):List (Int×Int):=ns.map λn=>oj (some n) ts
noncomputable abbrev xc (ts:List Tm):Int×Int:=kB (oj none ts)
noncomputable abbrev o5 (ns:List Str) (d:Dr):Dat:=.tuple [.str d.1,Qx d.2.1 (ky ns d.2.2.1) (xc d.2.2.1),.tuple (d.2.2.2.map λn:Nat=>Dat.int ((n:Int)-1))]
structure Yf (ns:List Str) (d:Dr):Prop where
 l:ns.length<=100
 m:d.2.2.2.length<=100
 nk:∀n∈ns,PyData.strOk n=true
 tk:∀t∈d.2.2.1,qR t
 pd:∀t∈d.2.2.1,Pd t.2
 tl:d.2.2.1.length<=98
theorem Q7(nm:Option Str){ts:List Tm}(hp:∀t∈ts,Pd t.2)(hl:ts.length<=98):0<(oj nm ts).2/\gcd (oj nm ts).1 (oj nm ts).2=1/\(oj nm ts).2.natAbs<10^590:=by
 obtain⟨h0,h1⟩:=xZ nm ts (0,1) 0 hp (by decide) (by decide);have h2:=Iu (N:=(lz nm (0,1) ts).1) h0 (IC (k:=0+ts.length) h1 (by omega));exact⟨h2.1,Fr.zS (by omega),h2.2⟩
abbrev SK (F:List Dat->Option Dat):Prop:=∀(ns:List Str) (d:Dr),Yf ns d->F [aI d,.list (ns.map .str)]=some (o5 ns d)
theorem Lk(T:TX mg)(R:RX P w K mg){Fp:List Dat->Option Dat}(Ae:Dn P w K mg base 4 "part_of" ["name","terms"] 2 Fp)(hP:SS Fp)(nJ:Dn P w K mg base 4 "minus" ["a","b"] 2 Fm)(hM:BM Fm)(U:FnAt K mg "row_of" (top 45) ["draft","names"]):
  ∃F,Dn P w K mg base 5 "row_of" ["draft","names"] 2 F/\SK F:=by
 refine⟨_,ek ["draft","names","terms","parts","bound"] U λnd _ _ _ _ _ _ _ hr=>(ao (az 2 nd (aB (ae 0) ai))
  (ao (az 3 nd (wm T.tuple (af (dj (fK rfl (iU (tn:=["name"]) (fv:=["terms"]) (js:=[2]) rfl (by decide +kernel) (by decide +kernel) rfl (by decide +kernel) (by decide +kernel) rfl
   (λx hx=>by((have jF:x="terms":=(by simpa using hx));(rcases jF with rfl<;>exact⟨_,rfl⟩)))
   (λp hp=>by((have jr:p=(("terms" : Str),(2:Nat)):=(by simpa using hp));(rcases jr with rfl<;>exact⟨rfl,.inr (.inl rfl),.inl rfl,λz=>by cases z⟩)))) (ae 1) (λ_ _ _ _=>(bp 0 (show(["name","terms"]:List Str).Nodup by decide +kernel))) (λ_ _ _ _=>dY) (λ_ _ _ _=>(aL Ae hr (af (ae 0) (af (ae 1) ah)))) (cY rfl))) ah)))
  (ao (az 4 nd (aL nJ hr (af (il R.zr.choose_spec.mg R.zr.choose_spec.tup) (af (aL Ae hr (af mJ (af (ae 2) ah))) ah (hs:=bf)))))
  (aw (aN (dZ (k:=0) (af (aB (ae 0) ai) (af (dZ (k:=0) (af (aB (ae 0) ai) (af (ae 3) (af (ae 4) ah)) (hs:=aJ))) (af (wm T.tuple (af (dj (fK rfl (eW (N':=["number"])) (aB (ae 0) ai) (λ_ _ _ _=>(bp 0 (show(["number"]:List Str).Nodup by decide +kernel))) (λ_ _ _ _=>dY) (λ_ _ _ _=>(ow (ae 0) ai)) (cY rfl))) ah)) ah (hs:=bf)) (hs:=Gj)) (hs:=aJ)))))))),?_⟩
 intro ns d h;have z3:3<=sizeLine:=sz (by decide);have e0:=pQ d;have e1:=XS d;have e2:=ES d;have e3:=OM d;have OD:=hP none d.2.2.1 (λx hx=>by cases hx) h.tk h.pd h.tl;have OD:Fp [.none,.list (d.2.2.1.map bK)]=some (aW (oj none d.2.2.1)):=OD;obtain⟨o1,o2,o3⟩:=Q7 none h.pd h.tl;have em:=IS hM o1 o2 o3;have ec:cL (aName 0) cQ (cu 2 Fp (ax (aj 0) (ax (aj 1) aK))) [none,some (.list (d.2.2.1.map bK))] (ns.map Dat.str)=some ((ky ns d.2.2.1).map aW):=by
  rw[map_map];refine eV Dat.str (λn=>aW (oj (some n) d.2.2.1)) ns λn hn=>⟨[(0,.str n)],rfl,?_⟩;have e:=hP (some n) d.2.2.1 (λx hx=>by cases hx;exact h.nk n hn) h.tk h.pd h.tl;have e:Fp [.str n,.list (d.2.2.1.map bK)]=some (aW (oj (some n) d.2.2.1)):=e;generalize aW (oj (some n) d.2.2.1)=df at *;generalize Dat.list (d.2.2.1.map bK)=fX at *;generalize Dat.str n=dn at *;dsimp![e]
 have hz:(ns.map Dat.str).length<sizeLine:=by rw[length_map];exact bC (by have:=h.l;omega)
 have ef:fL (d7 [none,some 2] (aName 0) cQ (cu 2 Fp (ax (aj 0) (ax (aj 1) aK))) (aj 1)) (dD [~~~(aI d),~~~.list (ns.map .str),~~~.list (d.2.2.1.map bK),none,none])=some (.list ((ky ns d.2.2.1).map aW)):=iG (d:=.list (ns.map .str)) (ds:=ns.map .str) rfl rfl hz ec;have XI:cL (aName 0) cQ (L3.f2 vm (aj 0) (fC (.int 1))) [none] (dQ d.2.2.2)=some (d.2.2.2.map λn:Nat=>Dat.int ((n:Int)-1)):=
  eV (λn:Nat=>Dat.int (n:Int)) (λn:Nat=>Dat.int ((n:Int)-1)) d.2.2.2 λn hn=>⟨[(0,.int (n:Int))],rfl,by
   have e:=mV (n:Int) 1;generalize (n:Int)=m at *;dsimp![e]⟩
 have VW:(dQ d.2.2.2).length<sizeLine:=by rw[length_map];exact bC (by have:=h.m;omega)
 refine bQ ?_;show bG _ _ [~~~(aI d),~~~.list (ns.map .str),none,none,none]=_;rw[aG (au:=[~~~(aI d),~~~.list (ns.map .str),~~~.list (d.2.2.1.map bK),none,none]) (by
  generalize Dat.list (d.2.2.1.map bK)=fX at *;generalize Dat.list (ns.map .str)=cH at *;generalize aI d=dd at *;dsimp![e2])]
 refine(aG (au:=[~~~(aI d),~~~.list (ns.map .str),~~~.list (d.2.2.1.map bK),~~~.tuple ((ky ns d.2.2.1).map aW),none]) (cD (d:=.tuple ((ky ns d.2.2.1).map aW)) ?_)).trans ?_
 ·show dJ km (ax (fL (d7 [none,some 2] (aName 0) cQ (cu 2 Fp (ax (aj 0) (ax (aj 1) aK))) (aj 1))) aK) _=_;generalize oD:fL (d7 [none,some 2] (aName 0) cQ (cu 2 Fp (ax (aj 0) (ax (aj 1) aK))) (aj 1))=fx at *;show(ax fx aK (dD [~~~(aI d),~~~.list (ns.map .str),~~~.list (d.2.2.1.map bK),none,none])).bind km=_;rw[show ax fx aK (dD [~~~(aI d),~~~.list (ns.map .str),~~~.list (d.2.2.1.map bK),none,none])=some [.list ((ky ns d.2.2.1).map aW)]from by unfold ax;rw[ef];rfl];rfl
 rw[aG (au:=[~~~(aI d),~~~.list (ns.map .str),~~~.list (d.2.2.1.map bK),~~~.tuple ((ky ns d.2.2.1).map aW),~~~(aW (xc d.2.2.1))]) (by
  generalize aW (xc d.2.2.1)=db at *;generalize aW (oj none d.2.2.1)=df at *;generalize Dat.tuple ((ky ns d.2.2.1).map aW)=XT at *;generalize Dat.list (d.2.2.1.map bK)=fX at *;generalize Dat.list (ns.map .str)=cH at *;generalize aI d=dd at *;dsimp![OD,em])]
 refine gj ?_;show qG (ax (L3.f2 bu (aj 0) (fC (.int 0))) (ax (qG (ax (L3.f2 bu (aj 0) (fC (.int 1))) (ax (aj 3) (ax (aj 4) aK)))) (ax (dJ km (ax (fL (d7 [none] (aName 0) cQ (L3.f2 vm (aj 0) (fC (.int 1))) (L3.f2 bu (aj 0) (fC (.int 3))))) aK)) aK))) (bo [~~~(aI d),~~~.list (ns.map .str),~~~.list (d.2.2.1.map bK),~~~.tuple ((ky ns d.2.2.1).map aW),~~~(aW (xc d.2.2.1))])=_;have XG:fL (d7 [none] (aName 0) cQ (L3.f2 vm (aj 0) (fC (.int 1))) (L3.f2 bu (aj 0) (fC (.int 3)))) [some (aI d),some (.list (ns.map .str)),some (.list (d.2.2.1.map bK)),some (.tuple ((ky ns d.2.2.1).map aW)),some (aW (xc d.2.2.1))]=some (.list (d.2.2.2.map λn:Nat=>Dat.int ((n:Int)-1))):=iG (d:=.list (dQ d.2.2.2)) (ds:=dQ d.2.2.2) rfl rfl VW XI;have tp:km [.list (d.2.2.2.map λn:Nat=>Dat.int ((n:Int)-1))]=some (.tuple (d.2.2.2.map λn:Nat=>Dat.int ((n:Int)-1))):=rfl;generalize oD:fL (d7 [none] (aName 0) cQ (L3.f2 vm (aj 0) (fC (.int 1))) (L3.f2 bu (aj 0) (fC (.int 3))))=fx at *;show _=some (Dat.tuple [.str d.1,.tuple [.str d.2.1,.tuple ((ky ns d.2.2.1).map aW),aW (xc d.2.2.1)],.tuple (d.2.2.2.map λn:Nat=>Dat.int ((n:Int)-1))]);generalize (d.2.2.2.map λn:Nat=>Dat.int ((n:Int)-1))=Ss at *;generalize aW (xc d.2.2.1)=db at *;generalize Dat.tuple ((ky ns d.2.2.1).map aW)=XT at *;generalize Dat.list (d.2.2.1.map bK)=fX at *;generalize Dat.list (ns.map .str)=cH at *;generalize Dat.str d.1=da at *;generalize Dat.str d.2.1=dk at *;generalize aI d=dd at *;dsimp![e0,e1,XG,tp,z3]
noncomputable abbrev Rp:=Str×Dr
noncomputable abbrev cA (ps:List Rp):List Str:=ps.foldl (λacc p=>eu acc p.2.2.2.1) []
noncomputable abbrev Ak:=Str×Str×Nat
structure Yg (Fr Fc:List Dat->Option Dat) (Fw:List Dat->Option (List Dat)) (Fo:List Dat->Option Dat) (x:Str) (ps:List Rp) (ak:Option Ak):Prop where
 sp:(ps.map λp=>tl p.1)++(ak.toList.map λq=>tl q.1)=Tx.bB 10 (tl x)
 xl:x.length<=100000
 ne:ps≠[]
 l:ps.length<=39
 st:∀pre p post,ps=pre++p::post->Fr [.str p.1]=some (aI p.2)/\Fc [aI p.2,.list (pre.map λq=>aI q.2),.list ((cA pre).map .str)]=some .none/\kh p.2.1/\Fw [.list ((cA pre).map .str),.list (p.2.2.2.1.map bK)]=some ((cA (pre++[p])).map .str)
 ro:∀p∈ps,Fo [aI p.2,.list ((cA ps).map .str)]=some (o5 (cA ps) p.2)
 ka:∀q,ak=some q->Fr [.str q.1]=some (cw q.2.1)/\Fc [cw q.2.1,.list (ps.map λq=>aI q.2),.list ((cA ps).map .str)]=some .none/\(cA ps).Nodup/\(cA ps)[q.2.2]?=some q.2.1
noncomputable abbrev Pg (ak:Option Ak):Dat:=match ak with
 |some q=>.int (q.2.2:Int)
 |none=>.none
abbrev Py (Fr Fc:List Dat->Option Dat) (Fw:List Dat->Option (List Dat)) (Fo:List Dat->Option Dat) (F:List Dat->Option (List Dat×List Dat×Dat)):Prop:=∀(x:Str) (ps:List Rp) (ak:Option Ak),Yg Fr Fc Fw Fo x ps ak->F [.str x]=some ((cA ps).map .str,ps.map λp=>o5 (cA ps) p.2,Pg ak)
theorem Ee:∀{ns:List Str} {j:Nat} {n:Str},ns.Nodup->ns[j]?=some n->ux (.list (ns.map .str)) [.str n]=some (.int (j:Int)):=by
 intro ns j n Bf h;have key:∀(l:List Str) (i:Nat),l.Nodup->l[i]?=some n->(l.map Dat.str).findIdx? (λz=>kT z (.str n))=some i:=by
  intro l;induction l with
  |nil=>intro i _ h;simp at h
  |cons a l ih=>
   intro i hn hi;rw[map_cons,List.findIdx?_cons];have e:kT (.str a) (.str n)=(a==n):=rfl;rw[e];cases i with
   |zero=>
    have:a=n:=by simpa using hi
    rw[this];simp
   |succ i=>
    have hi:l[i]?=some n:=by simpa using hi
    have i8:a≠n:=λz=>(nodup_cons.mp hn).1 (z▸List.mem_of_getElem? hi);rw[show(a==n)=false from by simpa using i8,ih i (nodup_cons.mp hn).2 hi];rfl
 show(if f9 (.str n)=true/\(ns.map Dat.str).all f9=true then _ else none)=_;rw[if_pos ⟨rfl,by rw[List.all_map,all_eq_true];exact λ_ _=>rfl⟩,key ns j Bf h];rfl
theorem yf(ns:List Str):(ns.map Dat.str).all (k9 9)=true:=by
 rw[List.all_map,all_eq_true];exact λ_ _=>rfl
theorem Gr(ns:List Str)(ps:List Rp):(ps.map λp=>o5 ns p.2).all (k9 9)=true:=by
 rw[List.all_map,all_eq_true];intro p _;have h1:((ky ns p.2.2.2.1).map aW).all (k9 6)=true:=by
  rw[List.all_map,all_eq_true];exact λ_ _=>rfl
 have h2:(p.2.2.2.2.map λn:Nat=>Dat.int ((n:Int)-1)).all (k9 7)=true:=by
  rw[List.all_map,all_eq_true];exact λ_ _=>rfl
 show(k9 8 (.str p.2.1)&&((k9 7 (.str p.2.2.1)&&(((ky ns p.2.2.2.1).map aW).all (k9 6)&&(k9 7 (aW (xc p.2.2.2.1))&&true)))&&((p.2.2.2.2.map λn:Nat=>Dat.int ((n:Int)-1)).all (k9 7)&&true)))=true;rw[h1,h2];rfl
theorem vB{f:ay->Option (List Dat)}(h:f (bo Γ)=some ds)(h2:ds.all (k9 9)=true):oR i f Γ=some (.nx (Γ.set i (some (.own ds)))):=by
 unfold oR;rw[h,Option.bind_some,if_pos h2]
theorem Kg{f2:ay->Option (List Dat)}{f3:ay->Option Dat}{ns es:List Dat}(h:z (bY N ds)=some au)(h2:au[i]?=some (some (.own ns)))(h3:f2 (bo au)=some es)(h4:f3 (bo au)=some d)(h5:es.all (k9 9)=true)(h6:pM d=true):Gp N i f2 f3 z ds=some (ns,es,d):=by
 unfold Gp;rw[h,Option.bind_some,h2];show(f2 (bo au)).bind _=_;rw[h3,Option.bind_some,h4,Option.bind_some,if_pos ⟨h5,h6⟩]
theorem Ba(h:ds.length+1<=2000):bu (.list (ds++[d])) (.int (-1))=some d:=by
 show iZ (ds++[d]) (-1)=_;unfold iZ sd;rw[if_neg (by decide),length_append,length_singleton,if_pos (by omega),Option.bind_some];rw[show((-1:Int)+((ds.length+1:Nat):Int)).toNat=ds.length by omega,getElem?_append_right (le_refl _),Nat.sub_self];rfl
theorem P5:(Str.ofString "\n" : Str)=⟨#[10]⟩:=by decide +kernel
theorem wc(h:c<256)(hl:x.length<=100000):∃ys:List Str,ys.map tl=Tx.bB c (tl x)/\eO (.str x) [.str ⟨#[c]⟩]=some (ys.map .str):=by
 refine⟨Txt.split x ⟨#[c]⟩,Tx.lG h x,?_⟩;have hlen:(Txt.split x ⟨#[c]⟩).length<=100001:=by
  have e:=congrArg List.length (Tx.lG h x);rw[length_map]at e;rw[e];have:∀l:List Nat,(Tx.bB c l).length<=l.length+1:=by
   intro l;induction l with
   |nil=>exact le_refl _
   |cons a l ih=>
    unfold Tx.bB;split
    ·simp;exact ih
    ·split
     ·simp
     ·rename_i h t e;rw[e]at ih;simp at ih ⊢;omega
  have:=this (tl x);rw[bH]at this;omega
 have hz:(100001:Nat)<=sizeLine:=by rw[sizeLine_eq];decide
 exact if_pos ⟨rfl,by omega,by omega⟩
variable {Fo:List Dat->Option Dat} {Fw:List Dat->Option (List Dat)}
theorem OV(T:TX mg)(R:RX P w K mg)(nX:Dn P w K mg base 8 "read_row" ["row"] 1 Fr)(Ag:Dn P w K mg base 8 "check" ["draft","above","names"] 3 Fc)(gW:sD P w K mg base 8 "names_with" ["names","terms"] 2 Fw)(LF:Dn P w K mg base 8 "row_of" ["draft","names"] 2 Fo)(U:FnAt K mg "read" (top 46) ["text"]):
  ∃F,JP P w K mg base 9 "read" ["text"] 1 F/\Py Fr Fc Fw Fo F:=by
 refine⟨_,Um ["text","rows","drafts","names","row","draft","last","asked"] 3 U λnd _ _ _ _ _ _ _ hr=>(jf (az 1 nd (gM (ae 0) (af ar ah)))
  (jf (aH (dP (aY T.len (af (ae 1) ah)) (eT R.mr)) (aw bS) aE)
  (jf (iy 2 nd (j6 ah))
  (jf (iy 3 nd (j6 ah))
  (jf (l4 PassesOwn.never rfl (ae 1) (bp 4 nd)
  (ao (az 5 nd (aL nX hr (af (ae 4) ah)))
  (ao (lI (aL Ag hr (af (ae 5) (af (ae 2) (af (ae 3) ah)))))
  (ao (gU 2 (ae 5))
  (aw (aH (gH hr (aB (ae 5) ai) ar) (aw (qh 3 nd (yC gW hr (af (ae 3) (af (aB (ae 5) ai) ah (hs:=aJ)))))) aE))))))
  (jf (Gx [2] (az 6 nd (aB (ae 2) (mK ai))))
  (jf (az 7 nd (qk (aX hr (aB (ae 6) ai) ar) (Du (ae 3) (af (aB (ae 6) ai) ah (hs:=aJ))) mJ))
  (MG 3 (fK rfl (iU (tn:=["draft"]) (fv:=["names"]) (js:=[3]) rfl (by decide +kernel) (by decide +kernel) rfl (by decide +kernel) (by decide +kernel) rfl
   (λx hx=>by((have jF:x="names":=(by simpa using hx));(rcases jF with rfl<;>exact⟨_,rfl⟩)))
   (λp hp=>by((have jr:p=(("names" : Str),(3:Nat)):=(by simpa using hp));(rcases jr with rfl<;>exact⟨rfl,.inr (.inl rfl),.inl rfl,λz=>by cases z⟩)))) (ae 2) (λ_ _ _ _=>(bp 0 (show(["draft","names"]:List Str).Nodup by decide +kernel))) (λ_ _ _ _=>(gK (gH hr (aB (ae 0) ai) ar))) (λ_ _ _ _=>(aL LF hr (af (ae 0) (af (ae 1) ah)))) (cY rfl)) (ae 7))))))))),?_⟩
 intro x ps ak I;have i8:ps≠[]:=I.ne;have z0:0<=sizeLine:=zero_le _;have z3:3<=sizeLine:=sz (by decide);obtain⟨ys,e1,e2⟩:=wc (x:=x) (c:=10) (by decide) I.xl;have ey:ys=ps.map (·.1)++ak.toList.map (·.1):=dO (by rw[e1,<- I.sp,map_append,map_map,map_map];rfl);have e3:eO (.str x) [.str "\n"]=some ((ps.map λp=>Dat.str p.1)++ak.toList.map λq=>Dat.str q.1):=by rw[show("\n" : Str)=⟨#[10]⟩from P5,e2,ey,map_append,map_map,map_map];rfl
 clear e1 e2 ey ys;have Ex:ak.toList.length<=1:=by cases ak<;>simp
 obtain⟨m,lp,hm⟩:∃m:Int,dC [.list ((ps.map λp=>Dat.str p.1)++ak.toList.map λq=>Dat.str q.1)]=some (.int m)/\m<=40:=by
  refine⟨_,rfl,?_⟩;rw[length_append,length_map,length_map];have:=I.l;omega
 have g1:=cK m 40;rw[decide_eq_false (by omega)]at g1;generalize NQ:(ps.map λp=>Dat.str p.1)++(ak.toList.map λq=>Dat.str q.1)=rs at *;suffices hz:∃(y4 y5 y6:Option Slot) (sj:List Dat),vf _ _ [~~~.str x,none,none,none,none,none,none,none]=some [~~~.str x,~~~.list rs,~~~.list sj,some (.own ((cA ps).map .str)),y4,y5,y6,~~~(Pg ak)]/\sj=(ps.map λq=>aI q.2)++(ak.toList.map λq=>cw q.2.1)from by
  obtain⟨y4,y5,y6,sj,hz,hd⟩:=hz;have UB:∀p∈ps,kh p.2.1:=λp hp=>by
   obtain⟨pre,post,zp⟩:=List.append_of_mem hp;exact(I.st pre p post zp).2.2.1
  have ec:cL (aName 0) (aZ (L3.f2 gi (L3.f2 bu (aj 0) (fC (.int 0))) (fC (.str "ask")))) (cu 2 Fo (ax (aj 0) (ax (aj 1) aK))) [none,some (.list ((cA ps).map .str))] sj=some (ps.map λp=>o5 (cA ps) p.2):=by
   have h1:∀(l:List Rp),(∀p∈l,p∈ps)->cL (aName 0) (aZ (L3.f2 gi (L3.f2 bu (aj 0) (fC (.int 0))) (fC (.str "ask")))) (cu 2 Fo (ax (aj 0) (ax (aj 1) aK))) [none,some (.list ((cA ps).map .str))] ((l.map λq=>aI q.2)++(ak.toList.map λq=>cw q.2.1))=some (l.map λp=>o5 (cA ps) p.2):=by
    intro l;induction l with
    |nil=>
     intro _;cases ak with
     |none=>rfl
     |some q=>
      have h0:bu (cw q.2.1) (.int 0)=some (.str sA):=rfl;have q0:gi (.str sA) (.str "ask")=some (.bool false):=rfl;show cL _ _ _ _ [cw q.2.1]=some [];generalize cw q.2.1=dd at *;generalize Dat.str sA=da at *;generalize Dat.list ((cA ps).map .str)=dn at *;dsimp![h0,q0]
    |cons p l ih=>
     intro hl;have ih:=ih λq hq=>hl q (mem_cons_of_mem _ hq);have h0:=pQ p.2;obtain⟨_,q⟩:=lM (UB p (hl p mem_cons_self));have h1:=I.ro p (hl p mem_cons_self);rw[map_cons,map_cons,cons_append];generalize ((l.map λq=>aI q.2)++(ak.toList.map λq=>cw q.2.1))=rest at *;generalize (l.map λp=>o5 (cA ps) p.2)=outs at *;generalize o5 (cA ps) p.2=dr at *;generalize aI p.2=dd at *;generalize Dat.str p.2.1=da at *;generalize Dat.list ((cA ps).map .str)=dn at *;generalize WD:(aZ (L3.f2 gi (L3.f2 bu (aj 0) (fC (.int 0))) (fC (.str "ask"))))=ft at *;generalize WG:(cu 2 Fo (ax (aj 0) (ax (aj 1) aK)))=fe at *;have t1:ft (j5 [none,some dn] [(0,dd)])=some true:=by rw[<- WD];dsimp![h0,q]
     have t2:fe (j5 [none,some dn] [(0,dd)])=some dr:=by rw[<- WG];dsimp![h1]
     show(some [(0,dd)]).bind _=_;rw[Option.bind_some,t1,Option.bind_some,if_pos rfl,t2,Option.bind_some,ih];rfl
   rw[hd];exact h1 ps λp hp=>hp
  have Ei:sj.length<sizeLine:=by
   rw[hd,length_append,length_map,length_map];have:=I.l;exact bC (by omega)
  refine Kg hz rfl (HN (d:=.list sj) (ds:=sj) rfl rfl Ei ec) rfl (Gr _ _) ?_;cases ak<;>rfl
 rw[jd (au:=[~~~.str x,~~~.list rs,none,none,none,none,none,none]) (by
  generalize Dat.str x=dx at *;dsimp![eD,e3])]
 rw[jd (au:=[~~~.str x,~~~.list rs,none,none,none,none,none,none]) (by
  generalize Dat.str x=dx at *;generalize Dat.list rs=ir at *;dsimp![lp,g1])]
 rw[jd (au:=[~~~.str x,~~~.list rs,some (.own ([])),none,none,none,none,none]) (by
  generalize Dat.str x=dx at *;generalize Dat.list rs=ir at *;dsimp![z0])]
 rw[jd (au:=[~~~.str x,~~~.list rs,some (.own ([])),some (.own ([])),none,none,none,none]) (by
  generalize Dat.str x=dx at *;generalize Dat.list rs=ir at *;dsimp![z0])]
 have loop:∀(post pre:List Rp) (x4 x5:Option Slot),ps=pre++post->∃y4 y5,forL (aName 4) (bG (cW 5 (cu 1 Fr (ax (aj 4) aK))) (bG (rn (cu 3 Fc (ax (aj 5) (ax (aj 2) (ax (aj 3) aK))))) (bG (lZ 2 (aj 5)) (eI (aZ (L3.f2 gi (L3.f2 bu (aj 5) (fC (.int 0))) (fC (.str "ask")))) (oR 3 (vK 2 Fw (ax (aj 3) (ax (L3.f2 bu (aj 5) (fC (.int 2))) aK)))) dX)))) ((post.map λp=>Dat.str p.1)++(ak.toList.map λq=>Dat.str q.1)) [~~~.str x,~~~.list rs,some (.own (pre.map λq=>aI q.2)),some (.own ((cA pre).map .str)),x4,x5,none,none]=some (.nx [~~~.str x,~~~.list rs,some (.own ((ps.map λq=>aI q.2)++(ak.toList.map λq=>cw q.2.1))),some (.own ((cA ps).map .str)),y4,y5,none,none]):=by
  intro post;induction post with
  |nil=>
   intro pre x4 x5 hp;rw[append_nil]at hp;subst hp;cases uE:ak with
   |none=>
    refine⟨x4,x5,?_⟩;show some (Fl.nx _)=_;rw[show((none:Option Ak).toList.map λq=>cw q.2.1)=[]from rfl,append_nil]
   |some q=>
    obtain⟨s1,s2,s3,s4⟩:=I.ka q uE;refine⟨some (.ag (.str q.1)),~~~(cw q.2.1),?_⟩;have e0:bu (cw q.2.1) (.int 0)=some (.str sA):=rfl;have q1:gi (.str sA) (.str "ask")=some (.bool false):=rfl;have zl:(ps.map λq=>aI q.2).length<sizeLine:=by rw[length_map];exact bC (by have:=I.l;omega)
    show forL _ _ [Dat.str q.1] _=some (.nx [~~~.str x,~~~.list rs,some (.own ((ps.map λq=>aI q.2)++[cw q.2.1])),some (.own ((cA ps).map .str)),~~~.str q.1,~~~(cw q.2.1),none,none]);refine(vJ (as:=[(4,.str q.1)]) (au:=[~~~.str x,~~~.list rs,some (.own ((ps.map λq=>aI q.2)++[cw q.2.1])),some (.own ((cA ps).map .str)),~~~.str q.1,~~~(cw q.2.1),none,none]) rfl ?_).trans rfl;dsimp!;generalize (ps.map λq=>aI q.2)=dpre at *;generalize (cA ps).map Dat.str=kW at *;generalize cw q.2.1=dd at *;generalize Dat.str sA=da at *;generalize Dat.str q.1=dp at *;generalize Dat.str x=dx at *;generalize Dat.list rs=ir at *;rw[aG (au:=[~~~(dx),~~~(ir),some (.own (dpre)),some (.own (kW)),~~~(dp),~~~(dd),none,none]) (by dsimp![s1])];rw[aG (au:=[~~~(dx),~~~(ir),some (.own (dpre)),some (.own (kW)),~~~(dp),~~~(dd),none,none]) (by dsimp![s2])];rw[aG (au:=[~~~(dx),~~~(ir),some (.own (dpre++[dd])),some (.own (kW)),~~~(dp),~~~(dd),none,none]) (by dsimp![zl])];dsimp![e0,q1]
  |cons p post ih=>
   intro pre x4 x5 hp;obtain⟨s1,s2,s3,s4⟩:=I.st pre p post hp;have bW:ps.length=pre.length+(post.length+1):=by rw[hp,length_append,length_cons]
   have UQ:=I.l;obtain⟨y4,y5,e⟩:=ih (pre++[p]) (some (.ag (.str p.1))) (some (.ag (aI p.2))) (by rw[hp,append_assoc];rfl);refine⟨y4,y5,?_⟩;refine Eq.trans ?_ e;rw[map_cons,cons_append];refine vJ (as:=[(4,.str p.1)]) rfl ?_;dsimp!;have e0:=pQ p.2;have e2:=ES p.2;obtain⟨_,q1⟩:=lM s3;have zl:(pre.map λq=>aI q.2).length<sizeLine:=by rw[length_map];exact bC (by omega)
   have ma:(pre++[p]).map (λq:Rp=>aI q.2)=(pre.map λq=>aI q.2)++[aI p.2]:=by rw[map_append];rfl
   have zt:=yf (cA (pre++[p]));rw[ma];generalize (pre.map λq=>aI q.2)=dpre at *;generalize (cA (pre++[p])).map Dat.str=OO at *;generalize (cA pre).map Dat.str=kW at *;generalize Dat.list (p.2.2.2.1.map bK)=fX at *;generalize aI p.2=dd at *;generalize Dat.str p.2.1=da at *;generalize Dat.str p.1=dp at *;generalize Dat.str x=dx at *;generalize Dat.list rs=ir at *;rw[aG (au:=[~~~(dx),~~~(ir),some (.own (dpre)),some (.own (kW)),~~~(dp),~~~(dd),none,none]) (by dsimp![s1])];rw[aG (au:=[~~~(dx),~~~(ir),some (.own (dpre)),some (.own (kW)),~~~(dp),~~~(dd),none,none]) (by dsimp![s2])];rw[aG (au:=[~~~(dx),~~~(ir),some (.own (dpre++[dd])),some (.own (kW)),~~~(dp),~~~(dd),none,none]) (by dsimp![zl])];refine(my (by dsimp![e0,q1])).trans (vB (ds:=OO) ?_ zt);dsimp![e2,s4]
 obtain⟨y4,y5,e⟩:=loop ps [] none none rfl;refine⟨y4,y5,~~~(match ak with|some q=>cw q.2.1|none=>aI (ps.getLast i8).2),(ps.map λq=>aI q.2)++(ak.toList.map λq=>cw q.2.1),?_,rfl⟩
 refine(jd (au:=[~~~.str x,~~~.list rs,some (.own ((ps.map λq=>aI q.2)++(ak.toList.map λq=>cw q.2.1))),some (.own ((cA ps).map .str)),y4,y5,none,none]) ?_).trans ?_
 ·rw[<- NQ]at e ⊢;exact e
 have QM:bu (.list ((ps.map λq=>aI q.2)++(ak.toList.map λq=>cw q.2.1))) (.int (-1))=some (match ak with|some q=>cw q.2.1|none=>aI (ps.getLast i8).2):=by
  cases ak with
  |some q=>exact Ba (by rw[length_map];have:=I.l;omega)
  |none=>
   rw[show((none:Option Ak).toList.map λq=>cw q.2.1)=[]from rfl,append_nil];have hd:=List.dropLast_concat_getLast i8;have:ps.map (λq=>aI q.2)=(ps.dropLast.map λq=>aI q.2)++[aI (ps.getLast i8).2]:=by
    conv=>lhs;rw[<- hd]
    rw[map_append];rfl
   rw[this];exact Ba (by rw[length_map,List.length_dropLast];have:=I.l;omega)
 generalize se:(match ak with|some q=>cw q.2.1|none=>aI (ps.getLast i8).2)=dl at *
 show vf (λΓ=>cW 6 _ (frzs [2] Γ)) _ _=_;rw[jd (au:=[~~~.str x,~~~.list rs,~~~.list ((ps.map λq=>aI q.2)++(ak.toList.map λq=>cw q.2.1)),some (.own ((cA ps).map .str)),y4,y5,~~~(dl),none]) (by
  show cW 6 _ [~~~.str x,~~~.list rs,~~~.list ((ps.map λq=>aI q.2)++(ak.toList.map λq=>cw q.2.1)),some (.own ((cA ps).map .str)),y4,y5,none,none]=_;generalize Dat.list ((ps.map λq=>aI q.2)++(ak.toList.map λq=>cw q.2.1))=sj at *;generalize Dat.list rs=ir at *;generalize (cA ps).map Dat.str=dn at *;generalize Dat.str x=dx at *;dsimp![QM])]
 have fin:cW 7 (Js (aZ (L3.f2 d8 (L3.f2 bu (aj 6) (fC (.int 0))) (fC (.str "ask")))) (fP ux (aj 3) (ax (L3.f2 bu (aj 6) (fC (.int 1))) aK)) (fC .none)) [~~~.str x,~~~.list rs,~~~.list ((ps.map λq=>aI q.2)++(ak.toList.map λq=>cw q.2.1)),some (.own ((cA ps).map .str)),y4,y5,~~~(dl),none]=some (.nx [~~~.str x,~~~.list rs,~~~.list ((ps.map λq=>aI q.2)++(ak.toList.map λq=>cw q.2.1)),some (.own ((cA ps).map .str)),y4,y5,~~~(dl),~~~(Pg ak)]):=by
  cases uE:ak with
  |none=>
   rw[uE]at se;have se:aI (ps.getLast i8).2=dl:=se;have e4:bu dl (.int 0)=some (.str (ps.getLast i8).2.1):=by rw[<- se];rfl
   obtain⟨q1,_⟩:=lM (by
    obtain⟨pre,post,zp⟩:=List.append_of_mem (List.getLast_mem i8);exact(I.st pre _ post zp).2.2.1:kh (ps.getLast i8).2.1)
   generalize Dat.str (ps.getLast i8).2.1=da at *;show _=some (Fl.nx [~~~.str x,~~~.list rs,~~~.list ((ps.map λq=>aI q.2)++((none:Option Ak).toList.map λq=>cw q.2.1)),some (.own ((cA ps).map .str)),y4,y5,~~~(dl),~~~.none]);generalize Dat.list ((ps.map λq=>aI q.2)++((none:Option Ak).toList.map λq=>cw q.2.1))=sj at *;generalize Dat.list rs=ir at *;generalize (cA ps).map Dat.str=dn at *;generalize Dat.str x=dx at *;dsimp![e4,q1]
  |some q=>
   rw[uE]at se;have se:cw q.2.1=dl:=se;have e4:bu dl (.int 0)=some (.str sA):=by rw[<- se];rfl
   have e5:bu dl (.int 1)=some (.str q.2.1):=by rw[<- se];rfl
   have q1:d8 (.str sA) (.str "ask")=some (.bool true):=rfl;obtain⟨_,_,s3,s4⟩:=I.ka q uE;have ei:=Ee s3 s4;show _=some (Fl.nx [~~~.str x,~~~.list rs,~~~.list ((ps.map λq=>aI q.2)++((some q:Option Ak).toList.map λq=>cw q.2.1)),some (.own ((cA ps).map .str)),y4,y5,~~~(dl),~~~.int (q.2.2:Int)]);generalize Dat.str sA=da at *;generalize Dat.str q.2.1=dq at *;generalize (q.2.2:Int)=qi at *;generalize Dat.list ((ps.map λq=>aI q.2)++((some q:Option Ak).toList.map λq=>cw q.2.1))=sj at *;generalize Dat.list rs=ir at *;generalize (cA ps).map Dat.str=dn at *;generalize Dat.str x=dx at *;dsimp![e4,e5,q1,ei]
 rw[jd fin];rfl
variable {f:Addr}
abbrev T7 (F:List Dat->Option Dat):Prop:=∀n f:Int,0<=n->0<=f->∃w:Nw,w.Ok/\F [.int n,.int f]=some (.list [.str (cg w),aW (gX w)])
theorem Mg{n:Int}(h0:0<=n)(h:n<1000000):sM [.int n]=some (.str (S n)):=Gi (by unfold JU;exact lt_of_lt_of_le (show n.natAbs<1000000 by omega) (by decide))
theorem Hc(a b:Int):minD [.int a,.int b]=some (.int (if b<a then b else a)):=rfl
theorem cV(a b:Int):jO (.int a) (.int b)=some (.int (a+b)):=rfl
theorem OX(T:TX mg)(Ig:Dn P w K mg base 2 "_law_least" ["n","d"] 2 xo)(hL:Yj xo)(U:FnAt K mg "_law_figures" (top 52) ["number","far"]):
  ∃F,Dn P w K mg base 3 "_law_figures" ["number","far"] 2 F/\T7 F:=by
 refine⟨_,ek ["number","far","n","d","word"] U λnd _ _ _ _ _ _ _ hr=>(ao (az 2 nd (aB (cq (af (bh (ck (ae 0) ai) ai) (af (bh (ck (ae 0) ai) ai) (af (bh (ck (ae 0) ai) (rC ai ai)) ah (hs:=bZ)) (hs:=bZ)) (hs:=bZ))) (bh (ae 0) ai)))
  (ao (az 3 nd (aB (cq (af ai (af ai (af (aM ai (bh (ae 1) ai)) (af (aM ai (bh (ae 1) ai)) ah (hs:=bZ)) (hs:=bZ))))) (bh (ck (ae 0) ai) ai)))
  (ao (aH (rA (bh (ck (ae 0) ai) ai) ai) (aw (az 3 nd ai)) aE)
  (ao (aH (cE (cz (aX hr (bh (ck (ae 0) ai) ai) ai) (cX (rA (ae 2) ai)))) (ao (az 2 nd (eQ (ae 2) (aM ai (bh (ck (ae 1) ai) ai))))
  (aw (az 3 nd (eQ (Kp rfl T.min (af (ae 3) (af ai ah))) (aM ai (bh (ck (ae 1) ai) ai)))))) aE)
  (ao (az 4 nd (yD T.str (af (ae 2) ah)))
  (ao (aH (cE (gG (dP (ae 3) ai) (fR (aX hr (bh (ck (ae 0) ai) ai) ai)))) (aw (az 4 nd (aM (aM (ae 4) ar) (yD T.str (af (ae 3) ah))))) aE)
  (aw (aN (cq (af (ae 4) (af (aL Ig hr (af (ae 2) (af (ae 3) ah))) ah (hs:=bf)))))))))))),?_⟩
 intro nb fa hn hf;have z2:2<=sizeLine:=sz (by decide);have z3:3<=sizeLine:=sz (by decide);have z4:4<=sizeLine:=sz (by decide);have q8:=cF (a:=nb) (b:=8) (by decide) (by decide);have VF:=bg (a:=nb.fdiv 8) (b:=10) (by decide);have Ql:=bg (a:=nb.fdiv 8) (b:=1000) (by decide);have qm:=bg (a:=nb.fdiv 8) (b:=10^6) (by decide);have Vz:=bg (a:=nb) (b:=3) (by decide);have uR:=bL (nb.fdiv 8) (b:=10) (by decide);have b1000:=bL (nb.fdiv 8) (b:=1000) (by decide);have bm:=bL (nb.fdiv 8) (b:=10^6) (by decide);have b3:=bL nb (b:=3) (by decide);obtain⟨v0,W6,Xz⟩:=Y2 (.int ((nb.fdiv 8).fmod 10)) (.int ((nb.fdiv 8).fmod 1000)) (.int ((nb.fdiv 8).fmod (10^6))) b3.1 b3.2;obtain⟨n0,rfl,NU,oC⟩:∃n0:Int,v0=.int n0/\0<=n0/\n0<1000000:=by
  rcases W6 with h|h|h
  ·exact⟨_,h,by omega,by omega⟩
  ·exact⟨_,h,by omega,by omega⟩
  ·exact⟨_,h,bm.1,bm.2⟩
 have VB:=cF (a:=nb) (b:=3) (by decide) (by decide);have Ul:=bg (a:=nb.fdiv 3) (b:=4) (by decide);have Pc:=bL (nb.fdiv 3) (b:=4) (by decide);have VE:=bg (a:=fa) (b:=12) (by decide);have VC:=bg (a:=fa) (b:=999999) (by decide);have b12:=bL fa (b:=12) (by decide);have b99:=bL fa (b:=999999) (by decide);obtain⟨d0,WM,XH⟩:=Y1 1 1 (1+fa.fmod 12) (1+fa.fmod 999999) Pc.1 Pc.2;have S2:1<=d0/\d0<1000000:=by omega
 have ph:=cF (a:=nb) (b:=12) (by decide) (by decide);have mz:=bg (a:=nb.fdiv 12) (b:=4) (by decide);have VA:=cF (a:=fa) (b:=7) (by decide) (by decide);have Uk:=bg (a:=fa.fdiv 7) (b:=9) (by decide);have bf79:=bL (fa.fdiv 7) (b:=9) (by decide);generalize (fa.fdiv 7).fmod 9=r9 at *;generalize (nb.fdiv 12).fmod 4=s4 at *

 have fin:∀(n d:Int),0<=n->n<1000000->1<=d->d<1000000->∃w:Nw,w.Ok/\(bG (cW 4 (dJ sM (ax (aj 2) aK))) (bG (eI (pJ (aZ (L3.f2 wR (aj 3) (fC (.int 1)))) (aZ (L3.f2 d8 (L3.f2 iE (L3.f2 mD (aj 0) (fC (.int 12))) (fC (.int 4))) (fC (.int 2))))) (cW 4 (L3.f2 jO (L3.f2 jO (aj 4) (fC (.str "/"))) (dJ sM (ax (aj 3) aK)))) dX) (iW (lb (ax (aj 4) (ax (cu 2 xo (ax (aj 2) (ax (aj 3) aK))) aK)))))) [~~~.int nb,~~~.int fa,~~~.int n,~~~.int d,none]=some (.rt (.list [.str (cg w),aW (gX w)])):=by
  intro n d h1 h2 h3 h4;have s1:=Mg h1 h2;have s2:=Mg (n:=d) (by omega) h4;have e:=hL n d (by omega) (lt_of_lt_of_le (show d.natAbs<1000000 by omega) (by decide));have hS:(S n).length<=6:=by have:=rP (n:=n.toNat) (by omega);(rw[toNat_of_nonneg h1]at this;exact this.2)
  have hSd:(S d).length<=6:=by have:=rP (n:=d.toNat) (by omega);(rw[toNat_of_nonneg (by omega)]at this;exact this.2)
  have l3:(Str.ofString "/").length=1:=by rw[lY];rfl
  have a1:=fS (a:=S n) (b:=Str.ofString "/") (by omega);have a2:=fS (a:=S n++Str.ofString "/") (b:=S d) (by rw[jw];omega);by_cases hs:1<d\/s4=2
  ·refine⟨⟨n.toNat,d.toNat,true⟩,⟨by show n.toNat<_;omega,by show 1<=d.toNat;omega,by show d.toNat<_;omega,λz=>by cases z⟩,?_⟩;have ew:cg ⟨n.toNat,d.toNat,true⟩=S n++Str.ofString "/"++S d:=by
    show S ((n.toNat:Nat):Int)++Str.ofString "/"++S ((d.toNat:Nat):Int)=_;rw[toNat_of_nonneg h1,toNat_of_nonneg (by omega)]
   have ev:gX ⟨n.toNat,d.toNat,true⟩=eP n d:=by
    show eP ((n.toNat:Nat):Int) ((d.toNat:Nat):Int)=_;rw[toNat_of_nonneg h1,toNat_of_nonneg (by omega)]
   rw[ew,ev];rw[aG (au:=[~~~.int nb,~~~.int fa,~~~.int n,~~~.int d,~~~.str (S n)]) (by dsimp![s1])];have w5:pJ (aZ (L3.f2 wR (aj 3) (fC (.int 1)))) (aZ (L3.f2 d8 (L3.f2 iE (L3.f2 mD (aj 0) (fC (.int 12))) (fC (.int 4))) (fC (.int 2)))) (bo [~~~.int nb,~~~.int fa,~~~.int n,~~~.int d,~~~.str (S n)])=some true:=by
    by_cases Jo:1<d
    ·dsimp![cK,eq_true Jo]
    ·have Od:s4=2:=by omega
     dsimp![cK,eq_false Jo,ph,mz,bV,eq_true Od]
   rw[aG (au:=[~~~.int nb,~~~.int fa,~~~.int n,~~~.int d,~~~.str (S n++Str.ofString "/"++S d)]) ((my w5).trans (by
    generalize Dat.str (S n++Str.ofString "/"++S d)=dd at *;generalize Dat.str (S n++Str.ofString "/")=dd1 at *;generalize Dat.str (S n)=XX at *;dsimp![a1,s2,a2]))]
   generalize aW (eP n d)=df at *;generalize Dat.str (S n++Str.ofString "/"++S d)=dd at *;dsimp![e,z2]
  ·refine⟨⟨n.toNat,d.toNat,false⟩,⟨by show n.toNat<_;omega,by show 1<=d.toNat;omega,by show d.toNat<_;omega,λ_=>by show d.toNat=1;omega⟩,?_⟩;have ew:cg ⟨n.toNat,d.toNat,false⟩=S n:=by
    show S ((n.toNat:Nat):Int)=_;rw[toNat_of_nonneg h1]
   have ev:gX ⟨n.toNat,d.toNat,false⟩=eP n d:=by
    show eP ((n.toNat:Nat):Int) ((d.toNat:Nat):Int)=_;rw[toNat_of_nonneg h1,toNat_of_nonneg (by omega)]
   rw[ew,ev];rw[aG (au:=[~~~.int nb,~~~.int fa,~~~.int n,~~~.int d,~~~.str (S n)]) (by dsimp![s1])];have Jo:¬1<d:=by omega
   have Od:¬s4=2:=by omega
   rw[aG (au:=[~~~.int nb,~~~.int fa,~~~.int n,~~~.int d,~~~.str (S n)]) (by
    generalize Dat.str (S n)=XX at *;dsimp![cK,eq_false Jo,ph,mz,bV,eq_false Od])]
   generalize aW (eP n d)=df at *;generalize Dat.str (S n)=dd at *;dsimp![e,z2]
 have yh:∀g:aD->Option Fl,bG (cW 2 (L3.f2 bu (lb (ax (L3.f2 iE (L3.f2 mD (aj 0) (fC (.int 8))) (fC (.int 10))) (ax (L3.f2 iE (L3.f2 mD (aj 0) (fC (.int 8))) (fC (.int 1000))) (ax (L3.f2 iE (L3.f2 mD (aj 0) (fC (.int 8))) (L3.f2 yK (fC (.int 10)) (fC (.int 6)))) aK)))) (L3.f2 iE (aj 0) (fC (.int 3))))) (bG (cW 3 (L3.f2 bu (lb (ax (fC (.int 1)) (ax (fC (.int 1)) (ax (L3.f2 jO (fC (.int 1)) (L3.f2 iE (aj 1) (fC (.int 12)))) (ax (L3.f2 jO (fC (.int 1)) (L3.f2 iE (aj 1) (fC (.int 999999)))) aK))))) (L3.f2 iE (L3.f2 mD (aj 0) (fC (.int 3))) (fC (.int 4))))) g) [~~~.int nb,~~~.int fa,none,none,none]=g [~~~.int nb,~~~.int fa,~~~.int n0,~~~.int d0,none]:=by
  intro g;rw[aG (au:=[~~~.int nb,~~~.int fa,~~~.int n0,none,none]) (by dsimp![q8,VF,Ql,Uq,qm,Vz,z3,Xz])];rw[aG (au:=[~~~.int nb,~~~.int fa,~~~.int n0,~~~.int d0,none]) (by dsimp![VE,VC,cV,VB,Ul,z4,XH])]
 by_cases c1:s4<2
 ·obtain⟨w,ok,ew⟩:=fin n0 1 NU oC (by omega) (by omega);refine⟨w,ok,bQ ((yh _).trans ?_)⟩;have c3:¬s4=3:=by omega
  rw[aG (au:=[~~~.int nb,~~~.int fa,~~~.int n0,~~~.int 1,none]) (by dsimp![ph,mz,i6,eq_true c1])];rw[aG (au:=[~~~.int nb,~~~.int fa,~~~.int n0,~~~.int 1,none]) (by dsimp![ph,mz,bV,eq_false c3])];exact ew
 ·by_cases c2:s4=3/\n0<1000
  ·have zu:0<=n0*(1+r9)/\n0*(1+r9)<1000000:=by
    have a:=Int.mul_nonneg NU (show 0<=1+r9 by omega);have b:=Int.mul_le_mul (show n0<=999 by omega) (show 1+r9<=9 by omega) (by omega) (by omega);exact⟨a,by omega⟩
   obtain⟨md,RW⟩:∃md:Int,(if(999:Int)<d0 then 999 else d0)=md:=⟨_,rfl⟩;have hmd1:1<=md/\md<=999:=by
    rw[<- RW];split<;>omega
   have Jb:1<=md*(1+r9)/\md*(1+r9)<1000000:=by
    have a:=Int.mul_le_mul (show 1<=md by omega) (show 1<=1+r9 by omega) (by omega) (by omega);have b:=Int.mul_le_mul (show md<=999 by omega) (show 1+r9<=9 by omega) (by omega) (by omega);omega
   obtain⟨w,ok,ew⟩:=fin (n0*(1+r9)) (md*(1+r9)) zu.1 zu.2 Jb.1 Jb.2;refine⟨w,ok,bQ ((yh _).trans ?_)⟩;have m1:=mulR n0 (b:=1+r9) (by omega) (by omega);have m2:=mulR md (b:=1+r9) (by omega) (by omega);have mn:=Hc d0 999;rw[RW]at mn;rw[aG (au:=[~~~.int nb,~~~.int fa,~~~.int n0,~~~.int d0,none]) (by dsimp![ph,mz,i6,eq_false c1])];rw[aG (au:=[~~~.int nb,~~~.int fa,~~~.int (n0*(1+r9)),~~~.int (md*(1+r9)),none]) (by
    generalize n0*(1+r9)=n2 at *;generalize md*(1+r9)=d2 at *;dsimp![ph,mz,bV,eq_true c2.1,i6,eq_true c2.2,VA,Uk,cV,m1,mn,m2])]
   exact ew
  ·obtain⟨w,ok,ew⟩:=fin n0 d0 NU oC S2.1 S2.2;refine⟨w,ok,bQ ((yh _).trans ?_)⟩;rw[aG (au:=[~~~.int nb,~~~.int fa,~~~.int n0,~~~.int d0,none]) (by dsimp![ph,mz,i6,eq_false c1])];have w5:kD (aZ (L3.f2 d8 (L3.f2 iE (L3.f2 mD (aj 0) (fC (.int 12))) (fC (.int 4))) (fC (.int 3)))) (aZ (L3.f2 B7 (aj 2) (fC (.int 1000)))) (bo [~~~.int nb,~~~.int fa,~~~.int n0,~~~.int d0,none])=some false:=by
    by_cases h3:s4=3
    ·have h4:¬n0<1000:=λz=>c2 ⟨h3,z⟩;dsimp![ph,mz,bV,eq_true h3,i6,eq_false h4]
    ·dsimp![ph,mz,bV,eq_false h3]
   rw[aG (au:=[~~~.int nb,~~~.int fa,~~~.int n0,~~~.int d0,none]) ((je w5).trans rfl)];exact ew
structure SY (vs:List Str):Prop where
 l:vs.length<=3
 nd:vs.Nodup
 gd:∀x∈vs,mv x
noncomputable abbrev kb:Option Str->Str
 |some x=>x
 |none=>Str.ofString ""
noncomputable abbrev eJ (t:Tm):Dat:=.tuple [.str (kb t.1),aW t.2]
structure CB (vs:List Str) (ss:List Sg):Prop where
 ne:ss≠[]
 l:ss.length<=45
 ok:∀t∈ss,fQ t.2
 nm:∀t∈ss,∀x,w6 t.2=some x->x∈vs
 z:(txt (ss.map cm)).length<=80
noncomputable abbrev Me (ss:List Sg):Dat:=.list [.str (txt (ss.map cm)),.list ((ss.map cN).map eJ)]
abbrev T4 (F:List Dat->Option Dat):Prop:=∀(c k:Int) (vs:List Str),0<=k->SY vs->∃d,(∃ss,CB vs ss/\d=Me ss)/\F [.int c,.int k,.list (vs.map .str)]=some d
theorem uK:Str.ofString ""=(⟨#[]⟩:Str):=by decide +kernel
theorem txt_snoc(ss:List Sg)(t:Sg):txt ((ss++[t]).map cm)=Tx.eF (txt (ss.map cm)) (cm t):=by
 rw[map_append];show((ss.map cm)++[cm t]).foldl Tx.eF ⟨#[]⟩=_;rw[foldl_append];rfl
variable {i:Int}
theorem Y0(a b c e g h:Int)(h0:0<=i)(hi:i<6):∃v,(v=a\/v=b\/v=c\/v=e\/v=g\/v=h)/\bu (.list [.int a,.int b,.int c,.int e,.int g,.int h]) (.int i)=some (.int v):=by
 have:i=0\/i=1\/i=2\/i=3\/i=4\/i=5:=by omega
 rcases this with rfl|rfl|rfl|rfl|rfl|rfl
 ·exact⟨a,by omega,rfl⟩
 ·exact⟨b,by omega,rfl⟩
 ·exact⟨c,by omega,rfl⟩
 ·exact⟨e,by omega,rfl⟩
 ·exact⟨g,by omega,rfl⟩
 ·exact⟨h,by omega,rfl⟩
theorem R7{vs:List Str}(h0:0<=i)(h:i<(vs.length:Int)+1):∃o:Option Str,(∀x,o=some x->x∈vs)/\bu (.list ((vs++[Str.ofString ""]).map .str)) (.int i)=some (.str (kb o)):=by
 obtain⟨n,rfl⟩:∃n:Nat,i=(n:Int):=⟨i.toNat,by omega⟩;by_cases hn:n<vs.length
 ·refine⟨some vs[n],λx hx=>by cases hx;exact getElem_mem _,L3.fo ?_⟩;rw[getElem?_map,getElem?_append_left hn,getElem?_eq_getElem hn];rfl
 ·refine⟨none,λx hx=>(by cases hx),L3.fo ?_⟩;rw[getElem?_map,getElem?_append_right (by omega),show n-vs.length=0 by omega];rfl
theorem Mo(h0:0<=i)(h:i<2):∃b:Bool,qD (.str (Str.ofString "+-")) (.int i)=some (.str (if b=true then Str.ofString "-" else Str.ofString "+")):=by
 have:i=0\/i=1:=by omega
 rcases this with rfl|rfl
 ·refine⟨false,?_⟩;rw[if_neg Bool.false_ne_true,show Str.ofString "+-"=(⟨#[43,45]⟩:Str) by decide +kernel,show Str.ofString "+"=(⟨#[43]⟩:Str) by decide +kernel];rfl
 ·refine⟨true,?_⟩;rw[if_pos rfl,show Str.ofString "+-"=(⟨#[43,45]⟩:Str) by decide +kernel,show Str.ofString "-"=(⟨#[45]⟩:Str) by decide +kernel];rfl
theorem Nc{o:Option Str}(h:∀x,o=some x->mv x):gi (.str (kb o)) (.str (Str.ofString ""))=some (.bool o.isSome):=by
 show some (Dat.bool (!_))=_;cases o with
 |none=>simp
 |some x=>
  have:x≠Str.ofString "":=λz=>(h x rfl).1.ne (by rw[z,uK]);simp[this]
theorem pE(h:x.length<=4000):dC [.str x]=some (.int (x.length:Int)):=if_pos (sz h)
theorem Hs{gb:aD->Option Fl}{fs:ay->Option (List Dat)}(J:Nat->aD->Prop){I:aD->Prop}(h:fs (bo Γ)=some [.int (n:Int)])(hn:n<=1000)(h0:J 0 Γ)(st:∀i Γ,i<n->J i Γ->∃as,gt (nat i)=some as/\∃au,gb (setG Γ as)=some (.nx au)/\J (i+1) au)(fin:∀Γ,J n Γ->I Γ):∃au,xB oX gt gb fs Γ=some (.nx au)/\I au:=by
 obtain⟨au,e,h⟩:=Bp J h hn h0 st;exact⟨au,e,fin au h⟩
theorem K3(tx:Str)(ng:Bool)(W:Str):tx++(if(!decide (tx=Str.ofString "") || ng)=true then(if ng=true then Str.ofString "-" else Str.ofString "+")++W else W)=Tx.eF tx ⟨ng,W⟩:=by
 have em:Str.ofString "-"=Tx.zM:=su;have ep:Str.ofString "+"=Tx.cP:=vR;unfold Tx.eF;cases ng with
 |true=>
  rw[Bool.or_true,if_pos rfl,if_pos rfl,if_pos rfl,em,Str.append_assoc]
 |false=>
  rw[Bool.or_false,if_neg (show ¬((⟨false,W⟩:Tx.Wd).neg=true)from Bool.false_ne_true),if_neg Bool.false_ne_true,ep];by_cases h:tx=Str.ofString ""
  ·rw[decide_eq_true h,if_neg (by decide),if_pos (by rw[h,uK]),h,Ld]
  ·rw[decide_eq_false h,if_pos (show(!false)=true from rfl),if_neg (by rw[<- uK];exact h),Str.append_assoc]
theorem OW(T:TX mg){Ff:List Dat->Option Dat}(dG:Dn P w K mg base 3 "_law_stir" ["cell","k"] 2 Fs)(hs:FR Fs)(CJ:Dn P w K mg base 3 "_law_figures" ["number","far"] 2 Ff)(hF:T7 Ff)(U:FnAt K mg "_law_sum" (top 53) ["cell","k","names"]):
  ∃F,Dn P w K mg base 4 "_law_sum" ["cell","k","names"] 3 F/\T4 F:=by
 refine⟨_,ek ["cell","k","names","word","terms","j","number","figures","by","name","term","sign"] U λnd _ _ _ _ _ _ _ hr=>(ao (az 3 nd ar)
  (ao (iy 4 nd (j6 ah))
  (ao (ub PassesOwn.never rfl T.range (af (aB (cq (af ai (af ai (af ai (af ai (af ai (af ai ah))))))) (bh (aL dG hr (af (ae 0) (af (ae 1) ah))) ai)) ah (hs:=aJ)) (bp 5 nd) (ao (az 6 nd (aL dG hr (af (ae 0) (af (aM (aM (ae 1) ai) (eQ ai (ae 5))) ah (hs:=bZ)))))
  (ao (Gy (aL CJ hr (af (aL dG hr (af (ae 0) (af (aM (aM (ae 1) ai) (eQ ai (ae 5))) ah (hs:=bZ)))) (af (aL dG hr (af (ae 0) (af (aM (aM (ae 1) ai) (ae 5)) ah (hs:=bZ)))) ah (hs:=bf)) (hs:=bf))) (Kl (n:=2) rfl (gL (bp 7 nd) (gL (bp 8 nd) nO))))
  (ao (az 9 nd (aB (aM (ae 2) (cq (af ar ah))) (bh (ck (ae 6) ai) (aM (aY T.len (af (ae 2) ah)) ai))))
  (ao (az 10 nd (ae 7))
  (ao (aH (cE (cz (gH hr (ae 9) ar) (cX (aX hr (bh (ae 6) ai) ai)))) (ao (az 10 nd (ae 9))
  (aw (az 8 nd (dZ (k:=0) (af ai (af ai ah)))))) (aw (aH (gH hr (ae 9) ar) (aw (az 10 nd (aM (aM (ae 7) ar) (ae 9)))) aE)))
  (ao (az 11 nd (iT ar (bh (ck (ae 6) ai) ai)))
  (aw (aH (Km (aM (aM (aY T.len (af (ae 3) ah)) ai) (aY T.len (af (ae 10) ah))) ai) (ao (aH (aX hr (ae 11) ar) (aw (az 8 nd (dZ (k:=0) (af (ow ai (aB (ae 8) ai)) (af (aB (ae 8) ai) ah (hs:=aJ)) (hs:=bZ))))) aE)
  (ao (aH (cE (gG (gH hr (ae 3) ar) (fR (aX hr (ae 11) ar)))) (aw (az 10 nd (aM (ae 11) (ae 10)))) aE)
  (ao (az 3 nd (aM (ae 3) (ae 10)))
  (aw (gU 4 (dZ (k:=0) (af (ae 9) (af (ae 8) ah)))))))) aE)))))))))
  (aw (aN (cq (af (ae 3) (af (ae 4) ah)))))))),?_⟩
 intro c k vs hk hv;have z2:2<=sizeLine:=sz (by decide);have z1:1<=sizeLine:=sz (by decide);have z6:6<=sizeLine:=sz (by decide);have s0:=hs c k hk;have q6:=bg (a:=stir c k) (b:=6) (by decide);have b6:=bL (stir c k) (b:=6) (by decide);obtain⟨m',hm',em⟩:=Y0 1 1 2 3 4 8 b6.1 b6.2;obtain⟨m,rfl,zu,Wq⟩:∃m:Nat,m'=(m:Int)/\1<=m/\m<=8:=⟨m'.toNat,by omega,by omega,by omega⟩;have lv:dC [.list (vs.map .str)]=some (.int (vs.length:Int)):=by
  show some (Dat.int _)=_;rw[length_map]
 have av:jO (.list (vs.map .str)) (.list [.str (Str.ofString "")])=some (.list ((vs++[Str.ofString ""]).map .str)):=by
  rw[L3.FA (by rw[length_map];have:=hv.l;exact sz (by simp;omega)),map_append];rfl
 refine Mv ?_;show ∃d,_/\bG _ _ [~~~.int c,~~~.int k,~~~.list (vs.map .str),none,none,none,none,none,none,none,none,none]=_;refine sQ (au:=[~~~.int c,~~~.int k,~~~.list (vs.map .str),~~~.str (Str.ofString ""),none,none,none,none,none,none,none,none]) rfl ?_;refine sQ (au:=[~~~.int c,~~~.int k,~~~.list (vs.map .str),~~~.str (Str.ofString ""),some (.own ([])),none,none,none,none,none,none,none]) rfl ?_;refine Ms (λΓ=>∃(ss:List Sg) (x5 x6 x7 x8 x9 jR kl:Option Slot),CB vs ss/\Γ=[~~~.int c,~~~.int k,~~~.list (vs.map .str),~~~.str (txt (ss.map cm)),some (.own ((ss.map cN).map eJ)),x5,x6,x7,x8,x9,jR,kl]) ?_ ?_
 ·have Xv:(ax (L3.f2 bu (lb (ax (fC (.int 1)) (ax (fC (.int 1)) (ax (fC (.int 2)) (ax (fC (.int 3)) (ax (fC (.int 4)) (ax (fC (.int 8)) aK))))))) (L3.f2 iE (cu 2 Fs (ax (aj 0) (ax (aj 1) aK))) (fC (.int 6)))) aK) (bo [~~~.int c,~~~.int k,~~~.list (vs.map .str),~~~.str (Str.ofString ""),some (.own ([])),none,none,none,none,none,none,none])=some [.int (m:Int)]:=by
   generalize Dat.list (vs.map .str)=dv at *;dsimp![s0,q6,z6,em]
  refine Hs (n:=m) (λj Γ=>∃(ss:List Sg) (x5 x6 x7 x8 x9 jR kl:Option Slot),ss.length<=j/\(1<=j->ss≠[])/\(∀t∈ss,fQ t.2)/\(∀t∈ss,∀x,w6 t.2=some x->x∈vs)/\(txt (ss.map cm)).length<=80/\Γ=[~~~.int c,~~~.int k,~~~.list (vs.map .str),~~~.str (txt (ss.map cm)),some (.own ((ss.map cN).map eJ)),x5,x6,x7,x8,x9,jR,kl]) Xv (by omega) ⟨[],none,none,none,none,none,none,none,le_refl _,(λz=>absurd z (by decide)),(λt ht=>by cases ht),(λt ht=>by cases ht),zero_le _,by rw[uK];rfl⟩ ?st ?fin;case fin=>
   rintro Γ ⟨ss,x5,x6,x7,x8,x9,jR,kl,hl,i8,hok,iP,hz,rfl⟩;exact⟨ss,x5,x6,x7,x8,x9,jR,kl,⟨i8 zu,by omega,hok,iP,hz⟩,rfl⟩
  case st=>
   rintro i Γ hi ⟨ss,x5,x6,x7,x8,x9,jR,kl,hl,i8,hok,iP,hz,rfl⟩;refine⟨[(5,nat i)],rfl,?_⟩;show ∃au,bG _ _ [~~~.int c,~~~.int k,~~~.list (vs.map .str),~~~.str (txt (ss.map cm)),some (.own ((ss.map cN).map eJ)),~~~(nat i),x6,x7,x8,x9,jR,kl]=_/\_;have Be:∀t∈ss,fQ t.2:=hok;have m1:=mulR 2 (b:=(i:Int)) (by omega) (by omega);have s1:=hs c (k+1+2*(i:Int)) (by omega);have s2:=hs c (k+2+2*(i:Int)) (by omega);have s3:=hs c (k+100+(i:Int)) (by omega);have b1:=kY c (k+1+2*(i:Int));have b2:=kY c (k+2+2*(i:Int));have b3:=kY c (k+100+(i:Int));generalize stir c (k+1+2*(i:Int))=nb at s1 b1;generalize stir c (k+2+2*(i:Int))=f1 at s2 b2;generalize stir c (k+100+(i:Int))=f2 at s3 b3;obtain⟨w,hw,ef⟩:=hF f1 f2 b2.1 b3.1;have q4:=cF (a:=nb) (b:=4) (by decide) (by decide);have qv:=bg (a:=nb.fdiv 4) (b:=(vs.length:Int)+1) (by omega);have bv:=bL (nb.fdiv 4) (b:=(vs.length:Int)+1) (by omega);obtain⟨o,ho,eo⟩:=R7 (vs:=vs) bv.1 bv.2;have S1:∀x,o=some x->mv x:=λx hx=>hv.gd x (ho x hx);have en:=Nc S1;have q3:=bg (a:=nb) (b:=3) (by decide);have VD:=cF (a:=nb) (b:=64) (by decide) (by decide);have Up:=bg (a:=nb.fdiv 64) (b:=2) (by decide);have Pe:=bL (nb.fdiv 64) (b:=2) (by decide);obtain⟨ng,XC⟩:=Mo Pe.1 Pe.2;generalize hdo:Dat.list ((ss.map cN).map eJ)=lU;generalize Bh:txt (ss.map cm)=tx at hz;refine uH (Γ1:=[~~~.int c,~~~.int k,~~~.list (vs.map .str),~~~.str tx,some (.own ((ss.map cN).map eJ)),~~~(nat i),~~~.int nb,x7,x8,x9,jR,kl]) (by
    generalize Dat.list (vs.map .str)=dv at *;generalize (ss.map cN).map eJ=lU at *;dsimp![cV,m1,s1]) ?_
   refine uH (Γ1:=[~~~.int c,~~~.int k,~~~.list (vs.map .str),~~~.str tx,some (.own ((ss.map cN).map eJ)),~~~(nat i),~~~.int nb,~~~.str (cg w),~~~(aW (gX w)),x9,jR,kl]) (by
    generalize Dat.list (vs.map .str)=dv at *;generalize (ss.map cN).map eJ=lU at *;refine Ke (d:=.list [.str (cg w),aW (gX w)]) (as:=[(7,.str (cg w)),(8,aW (gX w))]) ?_ rfl;generalize Dat.list [.str (cg w),aW (gX w)]=dd at *;dsimp![cV,m1,s2,s3,ef]) ?_
   refine uH (Γ1:=[~~~.int c,~~~.int k,~~~.list (vs.map .str),~~~.str tx,some (.own ((ss.map cN).map eJ)),~~~(nat i),~~~.int nb,~~~.str (cg w),~~~(aW (gX w)),~~~.str (kb o),jR,kl]) (by
    generalize Dat.list ((vs++[Str.ofString ""]).map .str)=dv2 at *;generalize Dat.list (vs.map .str)=dv at *;generalize (ss.map cN).map eJ=lU at *;generalize Dat.str (kb o)=dn at *;generalize aW (gX w)=oH at *;dsimp![av,z1,q4,lv,cV,qv,eo]) ?_
   refine uH (Γ1:=[~~~.int c,~~~.int k,~~~.list (vs.map .str),~~~.str tx,some (.own ((ss.map cN).map eJ)),~~~(nat i),~~~.int nb,~~~.str (cg w),~~~(aW (gX w)),~~~.str (kb o),~~~.str (cg w),kl]) (by
    generalize Dat.list (vs.map .str)=dv at *;generalize (ss.map cN).map eJ=lU at *;generalize aW (gX w)=oH at *;dsimp![]) ?_
   refine Ou (λΓ=>∃t:Tr,fQ t/\w6 t=o/\Γ=[~~~.int c,~~~.int k,~~~.list (vs.map .str),~~~.str tx,some (.own ((ss.map cN).map eJ)),~~~(nat i),~~~.int nb,~~~.str (cg w),~~~(aW (fq t)),~~~.str (kb o),~~~.str (cM t),kl]) ?_ ?_
   ·cases o with
    |none=>
     refine⟨_,?_,.nu w,hw,rfl,rfl⟩;show eI _ _ _ [~~~.int c,~~~.int k,~~~.list (vs.map .str),~~~.str tx,some (.own ((ss.map cN).map eJ)),~~~(nat i),~~~.int nb,~~~.str (cg w),~~~(aW (gX w)),~~~.str (Str.ofString ""),~~~.str (cg w),kl]=_;have en:gi (.str (Str.ofString "")) (.str (Str.ofString ""))=some (.bool false):=en;show _=some (Fl.nx [~~~.int c,~~~.int k,~~~.list (vs.map .str),~~~.str tx,some (.own ((ss.map cN).map eJ)),~~~(nat i),~~~.int nb,~~~.str (cg w),~~~(aW (gX w)),~~~.str (Str.ofString ""),~~~.str (cg w),kl]);generalize Dat.list (vs.map .str)=dv at *;generalize (ss.map cN).map eJ=lU at *;generalize aW (gX w)=oH at *;dsimp![en]
    |some n=>
     have O2:=S1 n rfl;have en:gi (.str n) (.str (Str.ofString ""))=some (.bool true):=en;by_cases c3:nb.fmod 3=0
     ·refine⟨_,?_,.nm n,O2,rfl,rfl⟩;show eI _ _ _ [~~~.int c,~~~.int k,~~~.list (vs.map .str),~~~.str tx,some (.own ((ss.map cN).map eJ)),~~~(nat i),~~~.int nb,~~~.str (cg w),~~~(aW (gX w)),~~~.str n,~~~.str (cg w),kl]=_;show _=some (Fl.nx [~~~.int c,~~~.int k,~~~.list (vs.map .str),~~~.str tx,some (.own ((ss.map cN).map eJ)),~~~(nat i),~~~.int nb,~~~.str (cg w),~~~.tuple [.int 1,.int 1],~~~.str n,~~~.str n,kl]);generalize Dat.list (vs.map .str)=dv at *;generalize (ss.map cN).map eJ=lU at *;generalize aW (gX w)=oH at *;generalize Dat.str n=dn at *;dsimp![en,q3,bV,eq_true c3,z2]
     ·refine⟨_,?_,.nn w n,⟨hw,O2⟩,rfl,rfl⟩;have hl13:=mP hw;have hl8:=O2.1.len;have lS:cS.length=1:=by show(Str.ofString "*").length=1;rw[lY];rfl
      have a1:=fS (a:=cg w) (b:=cS) (by omega);have a2:=fS (a:=cg w++cS) (b:=n) (by rw[jw];omega);show eI _ _ _ [~~~.int c,~~~.int k,~~~.list (vs.map .str),~~~.str tx,some (.own ((ss.map cN).map eJ)),~~~(nat i),~~~.int nb,~~~.str (cg w),~~~(aW (gX w)),~~~.str n,~~~.str (cg w),kl]=_;generalize Dat.list (vs.map .str)=dv at *;generalize (ss.map cN).map eJ=lU at *;show _=some (Fl.nx [~~~.int c,~~~.int k,~~~(dv),~~~.str tx,some (.own (lU)),~~~(nat i),~~~.int nb,~~~.str (cg w),~~~(aW (gX w)),~~~.str n,~~~.str (cg w++cS++n),kl]);generalize aW (gX w)=oH at *;generalize Dat.str (cg w++cS++n)=dq2 at *;generalize Dat.str (cg w++cS)=dq1 at *;generalize Dat.str (cg w)=dq0 at *;generalize Dat.str n=dn at *;dsimp![en,q3,bV,eq_false c3,a1,a2]
   ·rintro Γ ⟨t,ht,RQ,rfl⟩;refine uH (Γ1:=[~~~.int c,~~~.int k,~~~.list (vs.map .str),~~~.str tx,some (.own ((ss.map cN).map eJ)),~~~(nat i),~~~.int nb,~~~.str (cg w),~~~(aW (fq t)),~~~.str (kb o),~~~.str (cM t),~~~.str (if ng=true then Str.ofString "-" else Str.ofString "+")]) (by
     generalize Dat.list (vs.map .str)=dv at *;generalize (ss.map cN).map eJ=lU at *;generalize aW (fq t)=oH at *;generalize Dat.str (if ng=true then Str.ofString "-" else Str.ofString "+")=Jw at *;dsimp![VD,Up,XC]) ?_
    have lO:=Aw ht;have l1:=pE (x:=tx) (by omega);have l2:=pE (x:=cM t) (by omega);have Oz:d8 (.str (if ng=true then Str.ofString "-" else Str.ofString "+")) (.str (Str.ofString "-"))=some (.bool ng):=by
     show some (Dat.bool _)=_;cases ng
     ·rw[if_neg Bool.false_ne_true,show decide (Str.ofString "+"=Str.ofString "-")=false by decide +kernel]
     ·rw[if_pos rfl];simp
    have Xy:gi (.str tx) (.str (Str.ofString ""))=some (.bool (!decide (tx=Str.ofString ""))):=by
     show some (Dat.bool (!_))=_;congr
    have lsg:(if ng=true then Str.ofString "-" else Str.ofString "+").length=1:=by
     cases ng
     ·rw[if_neg Bool.false_ne_true,lY];rfl
     ·rw[if_pos rfl,lY];rfl
    have EL:=K3 tx ng (cM t);have UJ:(tl (Tx.eF tx ⟨ng,cM t⟩)).length<=tx.length+(cM t).length+1:=by
     have:=Tx.Mi tx ⟨ng,cM t⟩;rw[bH tx]at this;exact this
    generalize hsg:(if ng=true then Str.ofString "-" else Str.ofString "+")=sgn at *;by_cases hle:(tx.length:Int)+1+((cM t).length:Int)<=80
    ·have a1:=fS (a:=sgn) (b:=cM t) (by omega);obtain⟨W2,Bi⟩:∃W2,(if(!decide (tx=Str.ofString "") || ng)=true then sgn++cM t else cM t)=W2:=⟨_,rfl⟩;have hW2l:W2.length<=23:=by
      rw[<- Bi];split
      ·rw[jw];omega
      ·omega
     rw[Bi]at EL;have a2:=fS (a:=tx) (b:=W2) (by omega);rw[EL]at a2;have Ei:((ss.map cN).map eJ).length<sizeLine:=by rw[length_map,length_map];exact bC (by omega)
     refine⟨[~~~.int c,~~~.int k,~~~.list (vs.map .str),~~~.str (Tx.eF tx ⟨ng,cM t⟩),some (.own (((ss.map cN).map eJ)++[.tuple [.str (kb o),aW (if ng=true then kB (fq t)else fq t)]])),~~~(nat i),~~~.int nb,~~~.str (cg w),~~~(aW (if ng=true then kB (fq t)else fq t)),~~~.str (kb o),~~~.str W2,~~~.str sgn],(my (by
      generalize Dat.list (vs.map .str)=dv at *;generalize (ss.map cN).map eJ=lU at *;generalize aW (fq t)=oH at *;generalize Dat.str tx=OL at *;generalize Dat.str (cM t)=qI at *;dsimp![l1,l2,cV,dE,eq_true hle])).trans ?_,ss++[(ng,t)],~~~(nat i),~~~.int nb,~~~.str (cg w),~~~(aW (if ng=true then kB (fq t)else fq t)),~~~.str (kb o),~~~.str W2,~~~.str sgn,by rw[length_append];show _+1<=i+1;omega,(λ_ z=>by have:=congrArg List.length z;rw[length_append]at this;simp at this),?_,?_,?_,?_⟩
     ·rw[aG (au:=[~~~.int c,~~~.int k,~~~.list (vs.map .str),~~~.str tx,some (.own ((ss.map cN).map eJ)),~~~(nat i),~~~.int nb,~~~.str (cg w),~~~(aW (if ng=true then kB (fq t)else fq t)),~~~.str (kb o),~~~.str (cM t),~~~.str sgn]) (by
       cases ng with
       |true=>
        rw[if_pos rfl];have i0:bu (aW (fq t)) (.int 0)=some (.int (fq t).1):=rfl;have i1:bu (aW (fq t)) (.int 1)=some (.int (fq t).2):=rfl;have sb:=mV 0 (fq t).1;rw[show(0:Int)-(fq t).1=-(fq t).1 by omega]at sb;show _=some (Fl.nx [~~~.int c,~~~.int k,~~~.list (vs.map .str),~~~.str tx,some (.own ((ss.map cN).map eJ)),~~~(nat i),~~~.int nb,~~~.str (cg w),~~~.tuple [.int (-(fq t).1),.int (fq t).2],~~~.str (kb o),~~~.str (cM t),~~~.str sgn]);generalize Dat.list (vs.map .str)=dv at *;generalize (ss.map cN).map eJ=lU at *;generalize aW (fq t)=oH at *;generalize Dat.str sgn=Jw at *;dsimp![Oz,i0,i1,sb,z2]
       |false=>
        rw[if_neg Bool.false_ne_true];generalize Dat.list (vs.map .str)=dv at *;generalize (ss.map cN).map eJ=lU at *;generalize aW (fq t)=oH at *;generalize Dat.str sgn=Jw at *;dsimp![Oz])]
      generalize aW (if ng=true then kB (fq t)else fq t)=oH at *;rw[aG (au:=[~~~.int c,~~~.int k,~~~.list (vs.map .str),~~~.str tx,some (.own ((ss.map cN).map eJ)),~~~(nat i),~~~.int nb,~~~.str (cg w),~~~(oH),~~~.str (kb o),~~~.str W2,~~~.str sgn]) (by
       have w5:pJ (aZ (L3.f2 gi (aj 3) (fC (.str (Str.ofString ""))))) (aZ (L3.f2 d8 (aj 11) (fC (.str (Str.ofString "-"))))) (bo [~~~.int c,~~~.int k,~~~.list (vs.map .str),~~~.str tx,some (.own ((ss.map cN).map eJ)),~~~(nat i),~~~.int nb,~~~.str (cg w),~~~(oH),~~~.str (kb o),~~~.str (cM t),~~~.str sgn])=some (!decide (tx=Str.ofString "") || ng):=by
        generalize Dat.list (vs.map .str)=dv at *;generalize (ss.map cN).map eJ=lU at *;generalize hb:(!decide (tx=Str.ofString ""))=bb at *;generalize Dat.str sgn=Jw at *;generalize Dat.str tx=OL at *;cases bb<;>dsimp![Xy,Oz]<;>rfl
       cases hb:(!decide (tx=Str.ofString "") || ng)with
       |true=>
        rw[hb]at w5;rw[hb,if_pos rfl]at Bi;rw[<- Bi];refine(my w5).trans ?_;generalize Dat.list (vs.map .str)=dv at *;generalize (ss.map cN).map eJ=lU at *;generalize Dat.str (sgn++cM t)=dq at *;generalize Dat.str sgn=Jw at *;generalize Dat.str (cM t)=qI at *;dsimp![a1]
       |false=>
        rw[hb]at w5;rw[hb,if_neg Bool.false_ne_true]at Bi;rw[<- Bi];exact(je w5).trans rfl)]
      rw[aG (au:=[~~~.int c,~~~.int k,~~~.list (vs.map .str),~~~.str (Tx.eF tx ⟨ng,cM t⟩),some (.own ((ss.map cN).map eJ)),~~~(nat i),~~~.int nb,~~~.str (cg w),~~~(oH),~~~.str (kb o),~~~.str W2,~~~.str sgn]) (by
       generalize Dat.list (vs.map .str)=dv at *;generalize (ss.map cN).map eJ=lU at *;generalize Dat.str (Tx.eF tx ⟨ng,cM t⟩)=dq at *;generalize Dat.str tx=OL at *;generalize Dat.str W2=dw2 at *;dsimp![a2])]
      generalize (ss.map cN).map eJ=lU at *;generalize Dat.list (vs.map .str)=dv at *;generalize Dat.str (Tx.eF tx ⟨ng,cM t⟩)=dq at *;generalize Dat.str (kb o)=dno at *;dsimp![z2,Ei]
     ·intro u hu;rcases mem_append.mp hu with h|h
      ·exact hok u h
      ·rw[mem_singleton.mp h];exact ht
     ·intro u hu x hx;rcases mem_append.mp hu with h|h
      ·exact iP u h x hx
      ·rw[mem_singleton.mp h]at hx;exact ho x (RQ▸hx)
     ·rw[txt_snoc,Bh];show(Tx.eF tx ⟨ng,cM t⟩).length<=80;have:(tl (Tx.eF tx ⟨ng,cM t⟩)).length=(Tx.eF tx ⟨ng,cM t⟩).length:=bH _;have hsn:(tl (Tx.eF tx ⟨ng,cM t⟩)).length<=_:=UJ;omega
     ·rw[txt_snoc,Bh,map_append,map_append];show _=([~~~.int c,~~~.int k,~~~.list (vs.map .str),~~~.str (Tx.eF tx ⟨ng,cM t⟩),some (.own ((ss.map cN).map eJ++[.tuple [.str (kb (w6 t)),aW (if ng=true then kB (fq t)else fq t)]])),~~~(nat i),~~~.int nb,~~~.str (cg w),~~~(aW (if ng=true then kB (fq t)else fq t)),~~~.str (kb o),~~~.str W2,~~~.str sgn]:aD);rw[RQ]
    ·refine⟨_,(je (by
      generalize Dat.list (vs.map .str)=dv at *;generalize (ss.map cN).map eJ=lU at *;generalize aW (fq t)=oH at *;generalize Dat.str tx=OL at *;generalize Dat.str (cM t)=qI at *;dsimp![l1,l2,cV,dE,eq_false hle])).trans rfl,ss,~~~(nat i),~~~.int nb,~~~.str (cg w),~~~(aW (fq t)),~~~.str (kb o),~~~.str (cM t),~~~.str sgn,by omega,?_,hok,iP,by rw[Bh];exact hz,by rw[Bh]⟩
     intro _ Bc;rw[Bc]at Bh;have:tx.length=0:=by rw[<- Bh];rfl
     omega
 ·rintro Γ ⟨ss,x5,x6,x7,x8,x9,jR,kl,Bc,rfl⟩;refine⟨_,⟨ss,Bc,rfl⟩,gj ?_⟩;show lb (ax (aj 3) (ax (aj 4) aK)) _=some (Dat.list [.str (txt (ss.map cm)),.list ((ss.map cN).map eJ)]);generalize (ss.map cN).map eJ=dl at *;dsimp![z2]
structure Bt (lo n:Nat) (y:Str):Prop where
 a:∀c∈tl y,lo<=c/\c<128
 l:y.length<=n
def jv (lo:Nat) (f:ay->Option Dat) (ρ:ay) (n:Nat):Prop:=∃y,f ρ=some (.str y)/\Bt lo n y
variable {lo:Nat}
theorem Bt.tok(h:Bt lo n y)(hn:n<=4000):Tok y:=⟨le_trans h.l hn,λc hc=>(h.a c hc).2⟩
theorem Bt.mono(h:Bt lo m y)(hn:m<=n):Bt lo n y:=⟨h.a,le_trans h.l hn⟩
theorem eK(h:jv lo fa ρ m)(hn:m<=n):jv lo fa ρ n:=by
 obtain⟨y,e,b⟩:=h;exact⟨y,e,b.mono hn⟩
theorem P9(ha:Bt lo m x)(hb:Bt lo n y):Bt lo (m+n) (x++y):=by
 refine⟨λc hc=>?_,by rw[jw];exact Nat.add_le_add ha.l hb.l⟩;rw[aR]at hc;rcases mem_append.mp hc with h|h
 ·exact ha.a c h
 ·exact hb.a c h
variable {fb:ay->Option Dat}
theorem cZ(ha:jv lo fa ρ m)(hb:jv lo fb ρ n)(h:m+n<=4000):jv lo (L3.f2 jO fa fb) ρ (m+n):=by
 obtain⟨a,e1,b1⟩:=ha;obtain⟨b,e2,b2⟩:=hb;refine⟨a++b,?_,P9 b1 b2⟩;show(fa ρ).bind _=_;rw[e1];show(fb ρ).bind _=_;rw[e2];have:=b1.l;have:=b2.l;exact fS (by omega)
theorem BW(x:Str)(l u:Option Int):∀c∈tl (Txt.slice x l u),c∈tl x:=by
 unfold Txt.slice;split
 ·exact λc h=>h
 ·intro c h;have h:c∈((strSliceIndices l u 1 x.length).filterMap (x.cps[·]?)).toArray.toList:=h;rw[toList_toArray]at h;obtain⟨i,_,hi⟩:=mem_filterMap.mp h;exact Array.mem_toList_iff.mpr (Array.mem_of_getElem? hi)
theorem yo(x:Str)(l u:Option Int):(Txt.slice x l u).length<=(strSliceIndices l u 1 x.length).length:=by
 unfold Txt.slice;split
 ·rename_i h;have:(strSliceIndices l u 1 x.length).length=x.length:=by simpa using h
  omega
 ·show(List.filterMap _ (strSliceIndices l u 1 x.length)).toArray.size<=_;rw[size_toArray];exact List.length_filterMap_le _ _
variable {j:Int}
theorem P1(n:Nat)(h:0<=j):(strSliceIndices none (some j) 1 n).length<=j.toNat:=by
 unfold strSliceIndices sliceRange;simp only[show(1:Int)>0 by decide,if_true,length_map,length_range];split<;>(try split)<;>(try split)<;>(try simp only[ediv_one])<;>omega
theorem HP(n:Nat)(h:0<=j):(strSliceIndices (some j) none 1 n).length<=n-j.toNat:=by
 unfold strSliceIndices sliceRange;simp only[show(1:Int)>0 by decide,if_true,length_map,length_range];split<;>(try split)<;>(try split)<;>(try simp only[ediv_one])<;>omega
theorem Lz(n:Nat)(h:0<=i):(strSliceIndices (some i) (some (i+1)) 1 n).length<=1:=by
 unfold strSliceIndices sliceRange;simp only[show(1:Int)>0 by decide,if_true,length_map,length_range];split<;>(try split)<;>(try split)<;>(try simp only[ediv_one])<;>omega
theorem yk{fl fh:ay->Option (Option Int)}{l u:Option Int}(e:fa ρ=some (.str x))(hx:Bt lo 4000 x)(h1:fl ρ=some l)(h2:fh ρ=some u):gD fa fl fh ρ=some (.str (Txt.slice x l u)):=by
 show(fa ρ).bind _=_;rw[e];show(fl ρ).bind _=_;rw[h1];show(fh ρ).bind _=_;rw[h2];exact if_pos (sz hx.l)
variable {fj:ay->Option Dat}
theorem xD(e:fj ρ=some (.int j)):dI fj ρ=some (some j):=by
 show(fj ρ).bind _=_;rw[e];rfl
theorem jG(e:fa ρ=some (.str x))(hx:Bt lo 4000 x)(hj:fj ρ=some (.int j))(h:0<=j):jv lo (gD fa eE (dI fj)) ρ j.toNat:=
 ⟨_,yk e hx rfl (xD hj),λc hc=>hx.a c (BW x _ _ c hc),le_trans (yo x _ _) (P1 _ h)⟩
theorem iH(e:fa ρ=some (.str x))(hx:Bt lo 4000 x)(hj:fj ρ=some (.int j))(h:0<=j):jv lo (gD fa (dI fj) eE) ρ (x.length-j.toNat):=
 ⟨_,yk e hx (xD hj) rfl,λc hc=>hx.a c (BW x _ _ c hc),le_trans (yo x _ _) (HP _ h)⟩
variable {fi:ay->Option Dat}
theorem Bu(e:fa ρ=some (.str x))(hx:Bt lo 4000 x)(hi:fi ρ=some (.int i))(hj:fj ρ=some (.int (i+1)))(h:0<=i):jv lo (gD fa (dI fi) (dI fj)) ρ 1:=
 ⟨_,yk e hx (xD hi) (xD hj),λc hc=>hx.a c (BW x _ _ c hc),le_trans (yo x _ _) (Lz _ h)⟩
theorem bN{g:Dat->Dat->Option Dat}{da db:Dat}(e1:fa ρ=some da)(e2:fb ρ=some db)(h:g da db=some d):L3.f2 g fa fb ρ=some d:=by
 show(fa ρ).bind _=_;rw[e1];show(fb ρ).bind _=_;rw[e2];exact h
theorem rM(e:fa ρ=some (.str x))(hj:fj ρ=some (.int j))(ha:∀c∈tl x,lo<=c/\c<128)(h0:0<=j)(h:j<(x.length:Int))(hx:x.length<=1000):jv lo (L3.f2 qD fa fj) ρ 1:=by
 have hl:j.toNat<x.cps.size:=by
  have:x.length=x.cps.size:=rfl;omega
 refine⟨⟨#[x.cps[j.toNat]]⟩,bN e hj ?_,?_,le_refl _⟩
 ·show(if 0<=j/\j<1000 then(x.cps[j.toNat]?).map _ else none)=_;rw[if_pos ⟨h0,by omega⟩,Array.getElem?_eq_getElem hl];rfl
 ·intro c hc;have:c=x.cps[j.toNat]:=by simpa [Tx.tl]using hc
  rw[this];exact ha _ (Array.mem_toList_iff.mpr (Array.getElem_mem hl))
variable {b:Bool}
theorem sY:∀(n:Nat) (b a:Array Nat),((List.replicate n a).foldl (·++·) b).toList=b.toList++(List.replicate n a.toList).flatten
 |0,b,a=>by simp
 |n+1,b,a=>by
  rw[List.replicate_succ,List.foldl_cons,sY n,List.replicate_succ,List.flatten_cons,Array.toList_append,append_assoc]
theorem zI:∀(n:Nat) (a:List Nat),(List.replicate n a).flatten.length=n*a.length
 |0,a=>by simp
 |n+1,a=>by rw[List.replicate_succ,List.flatten_cons,length_append,zI n,Nat.succ_mul,Nat.add_comm]
variable {k:Int} in
theorem P8(h:Bt lo m x)(hk:0<=k):Bt lo (m*k.toNat) (Txt.mul x k):=by
 unfold Txt.mul;split
 ·exact⟨λc hc=>(by cases hc),zero_le _⟩
 ·split
  ·rename_i h1 h2;refine⟨h.a,le_trans h.l ?_⟩;exact Nat.le_mul_of_pos_right _ (by omega)
  ·refine⟨λc hc=>?_,?_⟩
   ·have hc:c∈((List.replicate k.toNat x.cps).foldl (·++·) #[]).toList:=hc;rw[sY]at hc;have hc:=(mem_append.mp hc).resolve_left (by simp);obtain⟨l,hl,hc⟩:=List.mem_flatten.mp hc;rw[List.eq_of_mem_replicate hl]at hc;exact h.a c hc
   ·show((List.replicate k.toNat x.cps).foldl (·++·) #[]).size<=_;rw[<- length_toList,sY,length_append,zI];have h3:x.cps.toList.length<=m:=h.l;have:k.toNat*x.cps.toList.length<=k.toNat*m:=mul_le_mul_left _ h3;rw[Nat.mul_comm m];show 0+_<=_;omega
variable {k:Int} in
theorem oG(ha:jv lo fa ρ m)(hj:fj ρ=some (.int k))(h0:0<=k)(hk:k<=1000)(h:m*k.toNat<=4000):jv lo (L3.f2 mulSD fa fj) ρ (m*k.toNat):=by
 obtain⟨a,e1,b1⟩:=ha;refine⟨Txt.mul a k,bN e1 hj ?_,P8 b1 h0⟩;have hl:=b1.l;have h2:a.length*k.toNat<=4000:=le_trans (Nat.mul_le_mul_right _ hl) h;have ok:MulOk a k:=by
  refine⟨?_,λh1 _=>?_,λh1 _=>?_⟩
  ·have e1:¬(k < -(2^63:Int)):=by omega
   have e2:¬(k>=(2^63:Int)):=by omega
   rw[decide_eq_false e1,decide_eq_false e2];rfl
  ·have h3:(a.length:Int)*k<=4000:=by
    obtain⟨q,rfl⟩:∃q:Nat,k=(q:Int):=⟨k.toNat,by omega⟩;rw[toNat_natCast]at h2;exact_mod_cast h2
   have:(a.length:Int)<=(2^63-1)/k:=(Int.le_ediv_iff_mul_le (by omega)).mpr (by omega);omega
  ·unfold tooLong;have:=sizeLine_eq;simp only[decide_eq_false_iff_not];first
    |omega
    |(show ¬_;omega)
 unfold mulSD;exact @if_pos _ (Classical.propDecidable _) ok _ _ _
theorem vM{ss:List Str}(e:fa ρ=some (.list (ss.map .str)))(hj:fj ρ=some (.int j))(h0:0<=j)(h:j<(ss.length:Int))(hs:∀s∈ss,Bt lo n s):jv lo (L3.f2 bu fa fj) ρ n:=by
 obtain⟨q,rfl⟩:∃q:Nat,j=(q:Int):=⟨j.toNat,by omega⟩;have hq:q<ss.length:=by omega
 refine⟨ss[q],bN e hj (L3.fo ?_),hs _ (getElem_mem hq)⟩;rw[getElem?_map,getElem?_eq_getElem hq];rfl
theorem cR(e:fa ρ=some (.int i))(h:decide (i=j)=b):aZ (L3.f2 d8 fa (fC (.int j))) ρ=some b:=by
 show(L3.f2 d8 fa (fC (.int j)) ρ).bind oK=_;rw[bN e rfl (bV i j),h];rfl
def nI (lo:Nat) (g:aD->Option Fl) (Γ:aD) (n:Nat):Prop:=∃y,g Γ=some (.rt (.str y))/\Bt lo n y
variable {g1 g2:aD->Option Fl}
theorem jo(h:g1 Γ=some (.nx au))(h2:nI lo g2 au n):nI lo (bG g1 g2) Γ n:=by
 obtain⟨y,e,b⟩:=h2;exact⟨y,(aG h).trans e,b⟩
variable {gb:aD->Option Fl}
theorem t9(h:ft (bo Γ)=some true)(h2:nI lo gb Γ n):nI lo (bG (eI ft gb dX) g2) Γ n:=by
 obtain⟨y,e,b⟩:=h2;exact⟨y,Kd ((my h).trans e),b⟩
theorem fz(h:ft (bo Γ)=some false)(h2:nI lo g2 Γ n):nI lo (bG (eI ft gb dX) g2) Γ n:=by
 obtain⟨y,e,b⟩:=h2;exact⟨y,(aG ((je h).trans rfl)).trans e,b⟩
variable {f:ay->Option Dat}
theorem mC(h:jv lo f (bo Γ) n):nI lo (iW f) Γ n:=by
 obtain⟨y,e,b⟩:=h;exact⟨y,gj e,b⟩
abbrev SE (F:List Dat->Option Dat):Prop:=∀(x:Str) (c k:Int),0<=k->Bt 11 959 x->∃y,F [.str x,.int c,.int k]=some (.str y)/\Bt 11 1919 y/\(x.length<=80->y.length<=959)
theorem iQ{s:Str}(h:(tl s).all (λc=>decide (lo<=c/\c<128))=true):∀c∈tl s,lo<=c/\c<128:=λc hc=>of_decide_eq_true (all_eq_true.mp h c hc)
noncomputable def Mk:List Str:=[Str.ofString "given",Str.ofString "so",Str.ofString "ask",Str.ofString "from",Str.ofString "abcdefghi",Str.ofString "1/0",Str.ofString "0/1",Str.ofString "00",Str.ofString "1234567",Str.ofString "1/007",Str.ofString "x*2",Str.ofString "2*3",Str.ofString "2x"]
noncomputable def Rv:List Str:=Mk++[Str.ofString "x2"]
noncomputable def Ru:List Str:=[Str.ofString "1/2/3",Str.ofString "x*y",Str.ofString "2**x",Str.ofString "+x",Str.ofString "-x",Str.ofString "0*x",Str.ofString "0",Str.ofString "x/2",Str.ofString "1/2*x",Str.ofString "2*1/2",Str.ofString "/2",Str.ofString "2/",Str.ofString "*x",Str.ofString "2*"]
noncomputable def Io:List Str:=Rv++Ru
theorem Qk(s:Str)(h:s∈Io):Bt 11 9 s:=by
 have:Io.all (λs=>(tl s).all (λc=>decide (11<=c/\c<128))&&decide (s.length<=9))=true:=by decide +kernel
 have:=and_eq_true_iff.mp (all_eq_true.mp this s h);exact⟨iQ this.1,of_decide_eq_true this.2⟩
theorem K6{g:aD->Option Fl}{B:Nat}(h1:B<=1919)(h2:n<=80->B<=959)(h:nI lo g (bY N ds) B):∃y,gq N g ds=some (.str y)/\Bt lo 1919 y/\(n<=80->y.length<=959):=by
 obtain⟨y,e,b⟩:=h;exact⟨y,bQ e,b.mono h1,λz=>le_trans b.l (h2 z)⟩
variable {i:Nat}
theorem EA(h:jv lo f (dD Γ) m)(h2:∀y,Bt lo m y->nI lo g2 (Γ.set i (some (.ag (.str y)))) n):nI lo (bG (cW i f) g2) Γ n:=by
 obtain⟨y,e,b⟩:=h;exact jo (cD e) (h2 y b)
variable {fs:ay->Option (List Dat)} in
theorem N0(h:fs (dD Γ)=some ds):yq i fs Γ=some (.nx (Γ.set i (some (.own ds)))):=by unfold yq;rw[h];rfl
theorem Om{fs:ay->Option (List Dat)}(h:fs ρ=some ds)(hz:ds.length<=sizeLine):EJ fs ρ=some ds:=by
 unfold EJ;rw[h];exact if_pos hz
theorem oF{fs:ay->Option (List Dat)}(h:fs ρ=some ds)(hz:ds.length<=sizeLine):lb fs ρ=some (.list ds):=by
 unfold lb;rw[h];exact if_pos hz
theorem Pf(h:Γ[i]?=some (some (.own ds)))(h2:f (dD Γ)=some d)(h3:ds.length<sizeLine):lZ i f Γ=some (.nx (Γ.set i (some (.own (ds++[d]))))):=by
 unfold lZ;rw[h];dsimp only;rw[h2];exact if_pos h3
variable {xs ys:List Dat}
theorem LA(h1:fa ρ=some (.list xs))(h2:fb ρ=some (.list ys))(h:xs.length+ys.length<=sizeLine):xP fa fb ρ=some (xs++ys):=by
 unfold xP;rw[h1,Option.bind_some,h2,Option.bind_some];exact if_pos h
theorem La(e:jv lo fa ρ m)(hm:m<=4000)(hj:fj ρ=some (.int j))(h:0<=j):jv lo (gD fa eE (dI fj)) ρ j.toNat:=by
 obtain⟨y,e,b⟩:=e;exact jG e ⟨b.a,le_trans b.l hm⟩ hj h
noncomputable def Mq:Str:=Str.ofString " !\"#$&'()*+,-./0123456789:;<=>?@"++Str.ofString "ABCDEFGHIJKLMNOPQRSTUVWXYZ[\\]^_`abcdefghijklmnopqrstuvwxyz{|}~"
theorem HA(T:TX mg)(dG:Dn P w K mg base 3 "_law_stir" ["cell","k"] 2 Fs)(hs:FR Fs)(U:FnAt K mg "_law_spoilt" (top 61) ["word","cell","k"]):
  ∃F,Dn P w K mg base 4 "_law_spoilt" ["word","cell","k"] 3 F/\SE F:=by
 refine⟨_,ek ["word","cell","k","kind","at","number","signs","left","there","some"] U λnd _ _ _ _ _ _ _ hr=>(ao (az 3 nd (bh (aL dG hr (af (ae 1) (af (ae 2) ah))) ai))
  (ao (az 4 nd (bh (aL dG hr (af (ae 1) (af (aM (ae 2) ai) ah (hs:=bZ)))) (aM (aY T.len (af (ae 0) ah)) ai)))
  (ao (az 5 nd (aL dG hr (af (ae 1) (af (aM (ae 2) ai) ah (hs:=bZ)))))
  (ao (aH (aX hr (ae 3) ai) (aw (aN (aM (aM (br (ae 0) bj (aV (ae 4))) (iT ar (bh (ae 5) ai))) (br (ae 0) (aV (ae 4)) bj)))) aE)
  (ao (aH (aX hr (ae 3) ai) (aw (aN (aM (br (ae 0) bj (aV (ae 4))) (br (ae 0) (aV (aM (ae 4) ai)) bj)))) aE)
  (ao (aH (aX hr (ae 3) ai) (ao (az 6 nd ar)
  (ao (az 6 nd (aM (ae 6) ar))
  (aw (aN (aM (aM (br (ae 0) bj (aV (ae 4))) (iT (ae 6) (bh (ae 5) ai))) (br (ae 0) (aV (ae 4)) bj)))))) aE)
  (ao (aH (aX hr (ae 3) ai) (ao (az 7 nd (aM (br (ae 0) bj (aV (ae 4))) (br (ae 0) (aV (aM (ae 4) ai)) bj)))
  (ao (az 8 nd (bh (ae 5) (aM (aY T.len (af (ae 7) ah)) ai)))
  (aw (aN (aM (aM (br (ae 7) bj (aV (ae 8))) (br (ae 0) (aV (ae 4)) (aV (aM (ae 4) ai)))) (br (ae 7) (aV (ae 8)) bj)))))) aE)
  (ao (aH (aX hr (ae 3) ai) (aw (aN (aM (aM (br (ae 0) bj (aV (ae 4))) (qpf_mulS (br (ae 0) (aV (ae 4)) (aV (aM (ae 4) ai))) ai)) (br (ae 0) (aV (aM (ae 4) ai)) bj)))) aE)
  (ao (aH (aX hr (ae 3) ai) (ao (iy 9 nd (j6 (af ar (af ar (af ar (af ar (af ar (af ar (af ar (af ar (af ar (af ar (af ar (af ar (af ar ah)))))))))))))))
  (ao (gU 9 ar)
  (ao (qh 9 nd (Dp (ae 9) (cq (af ar (af ar (af ar (af ar (af ar (af ar (af ar (af ar (af ar (af ar (af ar (af ar (af ar (af ar ah)))))))))))))))))
  (aw (aN (aM (aM (ae 0) ar) (aB (ae 9) (bh (ae 5) (aY T.len (af (ae 9) ah)))))))))) aE)
  (ao (aH (aX hr (ae 3) ai) (aw (aN (aM (ae 0) (qpf_mulS (aM ar (ae 0)) (bh (ae 5) (aB (cq (af ai (af ai ah))) (pf T.int (af (yE (aY T.len (af (ae 0) ah)) ai) ah (hs:=oQ))))))))) aE)
  (aw (aN (br (aM (ae 0) (qpf_mulS ar ai)) bj (aV (aM ai (bh (ae 5) ai)))))))))))))))),?_⟩
 intro x c k hk hx;have hT:Bt 11 4000 x:=⟨hx.a,le_trans hx.l (by decide)⟩;have hl:=hx.l;obtain⟨B,X8,X7,hB3,X6,hB5⟩:∃B:Nat,B<=1919/\(x.length<=80->B<=959)/\2*x.length+1<=B/\(x.length<=80->959<=B)/\(x.length+10<=B/\81<=B):=by
  by_cases h:x.length<=80
  ·exact⟨959,by omega,λ_=>le_refl _,by omega,λ_=>le_refl _,by omega,by omega⟩
  ·exact⟨2*x.length+1,by omega,λz=>absurd z h,le_refl _,λz=>absurd z h,by omega,by omega⟩
 refine K6 X8 X7 ?_;have s0:=hs c k hk;have s1:=hs c (k+1) (by omega);have s2:=hs c (k+2) (by omega);have b0:=kY c k;have b2:=kY c (k+2);have m8:=bg (a:=stir c k) (b:=8) (by decide);have c8:=bL (stir c k) (b:=8) (by decide);have ma:=bg (a:=stir c (k+1)) (b:=(x.length:Int)+1) (by omega);have ca:=bL (stir c (k+1)) (b:=(x.length:Int)+1) (by omega);have ln:=pE hT.l;generalize stir c k=n0 at *;generalize stir c (k+1)=n1 at *;generalize stir c (k+2)=nb at *;generalize n0.fmod 8=kd at *;generalize n1.fmod ((x.length:Int)+1)=a at *;show nI 11 _ [~~~.str x,~~~.int c,~~~.int k,none,none,none,none,none,none,none] B;refine jo (au:=[~~~.str x,~~~.int c,~~~.int k,~~~.int kd,none,none,none,none,none,none]) (by
  generalize Dat.str x=dx at *;dsimp![s0,m8]) ?_
 refine jo (au:=[~~~.str x,~~~.int c,~~~.int k,~~~.int kd,~~~.int a,none,none,none,none,none]) (by
  generalize Dat.str x=dx at *;dsimp![cV,s1,ln,ma]) ?_
 refine jo (au:=[~~~.str x,~~~.int c,~~~.int k,~~~.int kd,~~~.int a,~~~.int nb,none,none,none,none]) (by
  generalize Dat.str x=dx at *;dsimp![cV,s2]) ?_
 clear s0 s1 s2 m8 ma;obtain⟨uQ,ca1⟩:=ca;have Wx:kd=0\/kd=1\/kd=2\/kd=3\/kd=4\/kd=5\/kd=6\/kd=7:=by omega
 clear c8;rcases Wx with rfl|rfl|rfl|rfl|rfl|rfl|rfl|rfl
 ·have m5:=bg (a:=nb) (b:=5) (by decide);have c5:=bL nb (b:=5) (by decide);refine t9 (cR rfl (by decide)) (mC (eK (cZ (cZ (jG rfl hT rfl uQ) (rM (x:=Str.ofString "+-*/0") rfl (bN rfl rfl m5) (iQ (by decide +kernel)) c5.1 (by rw[show(Str.ofString "+-*/0").length=5 by decide +kernel];exact c5.2) (by decide +kernel)) (by omega)) (iH rfl hT rfl uQ) (by omega)) (by omega)))
 ·refine fz (cR rfl (by decide)) (t9 (cR rfl (by decide)) (mC (eK (cZ (jG rfl hT rfl uQ) (iH rfl hT (bN rfl rfl (cV a 1)) (by omega)) (by omega)) (by omega))))
 ·have m5:=bg (a:=nb) (b:=94) (by decide);have c5:=bL nb (b:=94) (by decide);refine fz (cR rfl (by decide)) (fz (cR rfl (by decide)) (t9 (cR rfl (by decide)) ?_));refine jo (cD rfl) (jo (cD (bN rfl rfl (fS (by decide +kernel)))) (mC ?_));exact eK (cZ (cZ (jG rfl hT rfl uQ) (rM (x:=Mq) rfl (bN rfl rfl m5) (iQ (by decide +kernel)) c5.1 (by rw[show Mq.length=94 by decide +kernel];exact c5.2) (by decide +kernel)) (by omega)) (iH rfl hT rfl uQ) (by omega)) (by omega)
 ·refine fz (cR rfl (by decide)) (fz (cR rfl (by decide)) (fz (cR rfl (by decide)) (t9 (cR rfl (by decide)) ?_)));refine EA (eK (n:=x.length) (cZ (jG rfl hT rfl uQ) (iH rfl hT (bN rfl rfl (cV a 1)) (by omega)) (by omega)) (by omega)) λlf NY=>?_;have hL:Bt 11 4000 lf:=⟨NY.a,le_trans NY.l hT.l⟩;have se:=NY.l;have ml:=bg (a:=nb) (b:=(lf.length:Int)+1) (by omega);have cl:=bL nb (b:=(lf.length:Int)+1) (by omega);refine jo (cD (bN rfl (bN (pE hL.l) rfl (cV _ 1)) ml)) (mC ?_);exact eK (cZ (cZ (jG rfl hL rfl cl.1) (Bu rfl hT rfl (bN rfl rfl (cV a 1)) uQ) (by omega)) (iH rfl hL rfl cl.1) (by omega)) (by omega)
 ·refine fz (cR rfl (by decide)) (fz (cR rfl (by decide)) (fz (cR rfl (by decide)) (fz (cR rfl (by decide)) (t9 (cR rfl (by decide)) (mC ?_)))));exact eK (cZ (cZ (jG rfl hT rfl uQ) (oG (k:=2) (Bu rfl hT rfl (bN rfl rfl (cV a 1)) uQ) rfl (by decide) (by decide) (by decide)) (by show _+1*2<=_;omega)) (iH rfl hT (bN rfl rfl (cV a 1)) (by omega)) (by show _+1*2+_<=_;omega)) (by show _+1*2+_<=_;omega)
 ·refine fz (cR rfl (by decide)) (fz (cR rfl (by decide)) (fz (cR rfl (by decide)) (fz (cR rfl (by decide)) (fz (cR rfl (by decide)) (t9 (cR rfl (by decide)) ?_)))));have m5:=bg (a:=nb) (b:=28) (by decide);have c5:=bL nb (b:=28) (by decide);have Va:13<=sizeLine:=sz (by decide);have TZ:13<sizeLine:=bC (by decide);have V9:14<=sizeLine:=sz (by decide);have V8:14+14<=sizeLine:=sz (by decide);refine jo (N0 (ds:=Mk.map .str) (Om rfl Va)) (jo (Pf (ds:=Mk.map .str) rfl rfl TZ) (jo (vB (ds:=Io.map .str) ?_ (by decide +kernel)) (mC ?_)))
  ·exact LA (xs:=Rv.map .str) (ys:=Ru.map .str) rfl (oF rfl V9) V8
  ·exact eK (cZ (cZ (m:=x.length) (n:=1) ⟨x,rfl,hx.a,le_refl _⟩ ⟨_,rfl,iQ (by decide +kernel),by decide +kernel⟩ (by omega)) (vM (n:=9) (ss:=Io) rfl (bN rfl rfl m5) c5.1 c5.2 (λs hs=>Qk s hs)) (by omega)) (by omega)
 ·refine fz (cR rfl (by decide)) (fz (cR rfl (by decide)) (fz (cR rfl (by decide)) (fz (cR rfl (by decide)) (fz (cR rfl (by decide)) (fz (cR rfl (by decide)) (t9 (cR rfl (by decide)) (mC ?_)))))));have z2:2<=sizeLine:=sz (by decide);by_cases pP:x.length<80
  ·have m5:=bg (a:=nb) (b:=12) (by decide);have c5:=bL nb (b:=12) (by decide);have E9:=i6 (x.length:Int) 80;rw[decide_eq_true (by omega)]at E9;have c1:L3.intD [.bool true]=some (.int 1):=rfl;have c2:bu (.list [.int 2,.int 12]) (.int 1)=some (.int 12):=rfl;have hm:(1+x.length)*(nb.fmod 12).toNat<=(1+x.length)*11:=mul_le_mul_left _ (by omega);have h959:=X6 (by omega);exact eK (cZ (m:=x.length) ⟨x,rfl,hx.a,le_refl _⟩ (oG (k:=nb.fmod 12) (cZ (m:=1) (n:=x.length) ⟨_,rfl,iQ (by decide +kernel),by decide +kernel⟩ ⟨x,rfl,hx.a,le_refl _⟩ (by omega)) (bN rfl (by
    clear m5;generalize Dat.str x=dx at *;dsimp![ln,E9,c1,c2,z2]) m5) c5.1 (by omega) (by omega)) (by omega)) (by omega)
  ·have m5:=bg (a:=nb) (b:=2) (by decide);have c5:=bL nb (b:=2) (by decide);have E9:=i6 (x.length:Int) 80;rw[decide_eq_false (by omega)]at E9;have c1:L3.intD [.bool false]=some (.int 0):=rfl;have c2:bu (.list [.int 2,.int 12]) (.int 0)=some (.int 2):=rfl;have hm:(1+x.length)*(nb.fmod 2).toNat<=(1+x.length)*1:=mul_le_mul_left _ (by omega);exact eK (cZ (m:=x.length) ⟨x,rfl,hx.a,le_refl _⟩ (oG (k:=nb.fmod 2) (cZ (m:=1) (n:=x.length) ⟨_,rfl,iQ (by decide +kernel),by decide +kernel⟩ ⟨x,rfl,hx.a,le_refl _⟩ (by omega)) (bN rfl (by
    clear m5;generalize Dat.str x=dx at *;dsimp![ln,E9,c1,c2,z2]) m5) c5.1 (by omega) (by omega)) (by omega)) (by omega)
 ·refine fz (cR rfl (by decide)) (fz (cR rfl (by decide)) (fz (cR rfl (by decide)) (fz (cR rfl (by decide)) (fz (cR rfl (by decide)) (fz (cR rfl (by decide)) (fz (cR rfl (by decide)) (mC ?_)))))));have m5:=bg (a:=nb) (b:=2) (by decide);have c5:=bL nb (b:=2) (by decide);exact eK (La (cZ (m:=x.length) ⟨x,rfl,hx.a,le_refl _⟩ (oG (m:=2) (k:=80) ⟨_,rfl,iQ (by decide +kernel),by decide +kernel⟩ rfl (by decide) (by decide) (by decide)) (by show _+160<=_;omega)) (by show _+160<=_;omega) (bN rfl (bN rfl rfl m5) (cV 80 _)) (by omega)) (by omega)
def oO (g:aD->Option Fl) (Γ:aD) (J:aD->Prop):Prop:=∃au,g Γ=some (.nx au)/\J au
variable {J:aD->Prop}
theorem Hq(h:oO g1 Γ J)(h2:∀au,J au->nI lo g2 au n):nI lo (bG g1 g2) Γ n:=by
 obtain⟨au,e,b⟩:=h;exact jo e (h2 au b)
theorem za(h:ft (bo Γ)=some true)(h2:oO gb Γ J):oO (eI ft gb dX) Γ J:=by
 obtain⟨au,e,b⟩:=h2;exact⟨au,(my h).trans e,b⟩
theorem vC(h:ft (bo Γ)=some false)(h2:J Γ):oO (eI ft gb dX) Γ J:=⟨Γ,(je h).trans rfl,h2⟩
theorem iX(h:g1 Γ=some (.nx au))(h2:oO g2 au J):oO (bG g1 g2) Γ J:=by
 obtain⟨CM,e,b⟩:=h2;exact⟨CM,(aG h).trans e,b⟩
theorem DT(h:jv lo f (dD Γ) m)(h2:∀y,Bt lo m y->oO g2 (Γ.set i (some (.ag (.str y)))) J):oO (bG (cW i f) g2) Γ J:=by
 obtain⟨y,e,b⟩:=h;exact iX (cD e) (h2 y b)
theorem zb(h:jv lo f (dD Γ) m)(h2:∀y,Bt lo m y->J (Γ.set i (some (.ag (.str y))))):oO (cW i f) Γ J:=by
 obtain⟨y,e,b⟩:=h;exact⟨_,cD e,h2 y b⟩
variable {fc:ay->Option Dat}
theorem Lb(h1:jv lo fa ρ n)(h2:jv lo fb ρ n)(h3:jv lo fc ρ n)(hj:fj ρ=some (.int j))(h0:0<=j)(h:j<3):jv lo (L3.f2 bu (lb (ax fa (ax fb (ax fc aK)))) fj) ρ n:=by
 obtain⟨a,e1,b1⟩:=h1;obtain⟨b,e2,b2⟩:=h2;obtain⟨c,e3,b3⟩:=h3;refine vM (ss:=[a,b,c]) (oF (ds:=[.str a,.str b,.str c]) ?_ (sz (show 3<=4000 by decide))) hj h0 h (λs hs=>?_)
 ·unfold ax aK;rw[e1,Option.bind_some,e2,Option.bind_some,e3,Option.bind_some];rfl
 ·simp only[mem_cons,not_mem_nil,or_false]at hs;rcases hs with rfl|rfl|rfl
  ·exact b1
  ·exact b2
  ·exact b3
theorem He:∀c∈tl lets,0<=c/\c<128:=iQ (by decide +kernel)
noncomputable def vp:Str:=Str.ofString " !\"#$&'()*+,-./0123456789:;<=>?@ABCXYZ[]^_{|}~\n"
abbrev T3 (F:List Dat->Option Dat):Prop:=∀c:Int,∃y,F [.int c]=some (.str y)/\Bt 0 400 y
theorem Ol{g:aD->Option Fl}(h:nI lo g (bY N ds) n):∃y,gq N g ds=some (.str y)/\Bt lo n y:=by
 obtain⟨y,e,b⟩:=h;exact⟨y,bQ e,b⟩
theorem Lq(T:TX mg)(dG:Dn P w K mg base 3 "_law_stir" ["cell","k"] 2 Fs)(hs:FR Fs)(U:FnAt K mg "_law_word" (top 64) ["cell"]):
  ∃F,Dn P w K mg base 4 "_law_word" ["cell"] 1 F/\T3 F:=by
 refine⟨_,ek ["cell","number","letters","word","at","more","signs"] U λnd _ _ _ _ _ _ _ hr=>(ao (az 1 nd (aL dG hr (af (ae 0) (af ai ah))))
  (ao (az 2 nd ar)
  (ao (az 3 nd (pe ar (af (dj (ku rfl (iU (tn:=["k"]) (fv:=["letters","cell"]) (js:=[2,0]) rfl (by decide +kernel) (by decide +kernel) rfl (by decide +kernel) (by decide +kernel) rfl
   (λx hx=>by((have jF:x="letters"\/x="cell":=(by simpa using hx));(rcases jF with rfl|rfl<;>exact⟨_,rfl⟩)))
   (λp hp=>by((have jr:p=(("letters" : Str),(2:Nat))\/p=(("cell" : Str),(0:Nat)):=(by simpa using hp));(rcases jr with rfl|rfl<;>exact⟨rfl,.inr (.inl rfl),.inl rfl,λz=>by cases z⟩)))) (lr T.range (af (bh (ck (ae 1) ai) ai) ah (hs:=bZ))) (λ_ _ _ _=>(bp 0 (show(["k","letters","cell"]:List Str).Nodup by decide +kernel))) (λ_ _ _ _=>dY) (λ_ _ _ _=>(iT (ae 1) (bh (aL dG hr (af (ae 2) (af (aM ai (ae 0)) ah (hs:=bZ)))) ai))) (cY rfl))) ah)))
  (ao (aH (rA (bh (ae 1) ai) ai) (ao (az 3 nd (aB (cq (af ar (af ar (af ar (af ar ah))))) (bh (ck (ae 1) ai) ai)))
  (ao (az 4 nd (bh (ck (ae 1) ai) (aM (aY T.len (af (ae 3) ah)) ai)))
  (ao (az 5 nd (iT (ae 2) (bh (ck (ae 1) ai) ai)))
  (aw (az 3 nd (aB (cq (af (ae 3) (af (aM (aM (br (ae 3) bj (aV (ae 4))) (ae 5)) (br (ae 3) (aV (ae 4)) bj)) (af (aM (br (ae 3) bj (aV (ae 4))) (br (ae 3) (aV (aM (ae 4) ai)) bj)) ah (hs:=bZ)) (hs:=bZ)))) (bh (ae 1) ai))))))) aE)
  (ao (aH (aX hr (bh (ae 1) ai) ai) (ao (az 6 nd ar)
  (ao (az 4 nd (bh (ck (ae 1) ai) (aM (aY T.len (af (ae 3) ah)) ai)))
  (aw (az 3 nd (aM (aM (br (ae 3) bj (aV (ae 4))) (iT (ae 6) (bh (aL dG hr (af (ae 0) (af ai ah))) (aY T.len (af (ae 6) ah))))) (br (ae 3) (aV (ae 4)) bj)))))) aE)
  (ao (aH (aX hr (bh (ae 1) ai) ai) (aw (az 3 nd (qpf_mulS (ae 3) (aB (cq (af ai (af ai ah))) (bh (ck (ae 1) ai) ai))))) aE)
  (aw (aN (ae 3))))))))),?_⟩
 intro c;refine Ol ?_;have s0:=hs c 400 (by decide);have b0:=kY c 400;have f8:=cF (a:=stir c 400) (b:=8) (by decide) (by decide);have Np:=bg (a:=(stir c 400).fdiv 8) (b:=10) (by decide);have Fq:=bL ((stir c 400).fdiv 8) (b:=10) (by decide);have m8:=bg (a:=stir c 400) (b:=8) (by decide);have c8:=bL (stir c 400) (b:=8) (by decide);generalize stir c 400=nb at *;show nI 0 _ [~~~.int c,none,none,none,none,none,none] 400;refine jo (au:=[~~~.int c,~~~.int nb,none,none,none,none,none]) (by simp![s0]) ?_;refine jo (au:=[~~~.int c,~~~.int nb,~~~.str lets,none,none,none,none]) (cD rfl) ?_;obtain⟨m,hm,RY⟩:∃m:Nat,(nb.fdiv 8).fmod 10=(m:Int)/\m<=9:=⟨((nb.fdiv 8).fmod 10).toNat,by omega,by omega⟩;rw[hm]at Np;refine EA (m:=9) (f:=_) ?_ λy0 h0=>?_
 ·refine⟨Txt.join (Str.ofString "") ((range' 0 m).map fun(j:Nat)=>ch ((stir c (401+(j:Int))).fmod 26).toNat),vH (uM ?_) ?_,?_,?_⟩
  ·rw[map_map];refine lQ (pF (as:=[.int (m:Int)]) (by simp![f8,Np]) (yu (by omega))) ?_ (eV nat _ _ λj hj=>⟨_,rfl,?_⟩)
   ·rw[length_map,length_range'];exact bC (by omega)
   ·have q1:=hs c (401+(j:Int)) (by omega);have q2:=bg (a:=stir c (401+(j:Int))) (b:=26) (by decide);have b:=bL (stir c (401+(j:Int))) (b:=26) (by decide);have q3:=uu b.1 b.2;simp![cV,q1,q2,q3,Function.comp]
  ·have h0:(Str.ofString "").length=0:=by rw[lY];rfl
   rw[h0,Nat.mul_zero,map_map];have:((range' 0 m).map ((λx=>Str.length x) ∘ fun(j:Nat)=>ch ((stir c (401+(j:Int))).fmod 26).toNat))=(range' 0 m).map λ_=>1:=map_congr_left λ_ _=>rfl;rw[this,ot,length_range'];omega
  ·intro x hx;rw[xJ]at hx;obtain⟨y,hy,hx⟩:=List.mem_flatMap.mp hx;obtain⟨j,_,rfl⟩:=mem_map.mp hy;have b:=bL (stir c (401+(j:Int))) (b:=26) (by decide);have:=xH (k:=((stir c (401+(j:Int))).fmod 26).toNat) (by omega) x hx;exact⟨zero_le _,by omega⟩
  ·rw[qB (xJ _),List.length_flatMap,map_map];have:((range' 0 m).map ((λa=>(tl a).length) ∘ fun(j:Nat)=>ch ((stir c (401+(j:Int))).fmod 26).toNat))=(range' 0 m).map λ_=>1:=map_congr_left λ_ _=>rfl;rw[this,ot,length_range'];omega
 clear Np s0;refine Hq (J:=λΓ=>∃(y:Str) (x4 x5:Option Slot),Bt 0 9 y/\Γ=[~~~.int c,~~~.int nb,~~~.str lets,~~~.str y,x4,x5,none]) ?_ ?_
 ·have l3:=i6 (nb.fmod 8) 3;by_cases h3:nb.fmod 8<3
  ·rw[decide_eq_true h3]at l3;refine za (by
    show(L3.f2 B7 _ _ _).bind oK=_;rw[bN (bN rfl rfl m8) rfl l3];rfl) ?_
   have m4:=bg (a:=nb.fdiv 8) (b:=4) (by decide);have c4:=bL (nb.fdiv 8) (b:=4) (by decide);refine DT (lo:=0) (m:=5) (vM (ss:=bw) (oF rfl (sz (by decide))) (bN (bN rfl rfl f8) rfl m4) c4.1 c4.2 λs hs=>?_) λy1 h1=>?_
   ·have:bw.all (λs=>(tl s).all (λc=>decide (0<=c/\c<128))&&decide (s.length<=5))=true:=by decide +kernel
    have:=and_eq_true_iff.mp (all_eq_true.mp this s hs);exact⟨iQ this.1,of_decide_eq_true this.2⟩
   have t1:Bt 0 4000 y1:=⟨h1.a,le_trans h1.l (by decide)⟩;have Wu:=h1.l;have Xx:=cF (a:=nb) (b:=32) (by decide) (by decide);have ma:=bg (a:=nb.fdiv 32) (b:=(y1.length:Int)+1) (by omega);have ca:=bL (nb.fdiv 32) (b:=(y1.length:Int)+1) (by omega);refine iX (cD (bN (bN rfl rfl Xx) (bN (pE t1.l) rfl (cV _ 1)) ma)) ?_;have UY:=cF (a:=nb) (b:=256) (by decide) (by decide);have VJ:=bg (a:=nb.fdiv 256) (b:=26) (by decide);have Sx:=bL (nb.fdiv 256) (b:=26) (by decide);refine DT (m:=1) (rM (x:=lets) rfl (bN (bN rfl rfl UY) rfl VJ) He Sx.1 (by rw[show lets.length=26 by decide +kernel];exact Sx.2) (by decide +kernel)) λy2 h2=>?_;refine zb (m:=9) (Lb (eK (n:=9) ⟨y1,rfl,h1⟩ (by decide)) (eK (n:=9) (cZ (cZ (jG rfl t1 rfl ca.1) (n:=1) ⟨y2,rfl,h2⟩ (by omega)) (iH rfl t1 rfl ca.1) (by omega)) (by omega)) (eK (n:=9) (cZ (jG rfl t1 rfl ca.1) (iH rfl t1 (bN rfl rfl (cV _ 1)) (by omega)) (by omega)) (by omega)) (bN rfl rfl m8) c8.1 h3) λy3 h3=>?_;exact⟨y3,_,_,h3,rfl⟩
  ·rw[decide_eq_false h3]at l3;refine vC (by
    show(L3.f2 B7 _ _ _).bind oK=_;rw[bN (bN rfl rfl m8) rfl l3];rfl) ?_
   exact⟨y0,none,none,h0,rfl⟩
 clear h0 y0;rintro _ ⟨y,x4,x5,hy,rfl⟩;have ty:Bt 0 4000 y:=⟨hy.a,le_trans hy.l (by decide)⟩;have Ws:=hy.l;refine Hq (J:=λΓ=>∃(y:Str) (x4 x5 x6:Option Slot),Bt 0 10 y/\Γ=[~~~.int c,~~~.int nb,~~~.str lets,~~~.str y,x4,x5,x6]) ?_ ?_
 ·by_cases h3:nb.fmod 8=3
  ·refine za (cR (bN rfl rfl m8) (decide_eq_true h3)) (iX (cD rfl) ?_);have Hu:=cF (a:=nb) (b:=128) (by decide) (by decide);have ma:=bg (a:=nb.fdiv 128) (b:=(y.length:Int)+1) (by omega);have ca:=bL (nb.fdiv 128) (b:=(y.length:Int)+1) (by omega);refine iX (cD (bN (bN rfl rfl Hu) (bN (pE ty.l) rfl (cV _ 1)) ma)) ?_;have s1:=hs c 411 (by decide);have ls:vp.length<=1000/\0<vp.length:=by decide +kernel
   have ml:=bg (a:=stir c 411) (b:=(vp.length:Int)) (by omega);have cl:=bL (stir c 411) (b:=(vp.length:Int)) (by omega);refine zb (m:=10) (eK (cZ (cZ (jG rfl ty rfl ca.1) (rM (x:=vp) rfl (bN s1 (pE (x:=vp) (by omega)) ml) (iQ (by decide +kernel)) cl.1 cl.2 ls.1) (by omega)) (iH rfl ty rfl ca.1) (by omega)) (by omega)) λy3 h3=>?_;exact⟨y3,_,_,_,h3,rfl⟩
  ·exact vC (cR (bN rfl rfl m8) (decide_eq_false h3)) ⟨y,_,_,_,hy.mono (by decide),rfl⟩
 clear hy ty Ws x4 x5 y;rintro _ ⟨y,x4,x5,x6,hy,rfl⟩;refine Hq (J:=λΓ=>∃(y:Str) (x4 x5 x6:Option Slot),Bt 0 400 y/\Γ=[~~~.int c,~~~.int nb,~~~.str lets,~~~.str y,x4,x5,x6]) ?_ ?_
 ·by_cases h3:nb.fmod 8=4
  ·refine za (cR (bN rfl rfl m8) (decide_eq_true h3)) ?_;have Hu:=cF (a:=nb) (b:=128) (by decide) (by decide);have m2:=bg (a:=nb.fdiv 128) (b:=2) (by decide);have c2:=bL (nb.fdiv 128) (b:=2) (by decide);obtain⟨v,hv,ev⟩:∃v:Int,(v=2\/v=40)/\bu (.list [.int 2,.int 40]) (.int ((nb.fdiv 128).fmod 2))=some (.int v):=by
    have:(nb.fdiv 128).fmod 2=0\/(nb.fdiv 128).fmod 2=1:=by omega
    rcases this with h|h
    ·rw[h];exact⟨2,.inl rfl,rfl⟩
    ·rw[h];exact⟨40,.inr rfl,rfl⟩
   have UH:10*v.toNat<=400:=by omega
   refine zb (m:=400) (eK (oG (m:=10) (k:=v) ⟨y,rfl,hy⟩ (bN (oF (ds:=[.int 2,.int 40]) rfl (sz (by decide))) (bN (bN rfl rfl Hu) rfl m2) ev) (by omega) (by omega) (by omega)) UH) λy3 h3=>?_;exact⟨y3,_,_,_,h3,rfl⟩
  ·exact vC (cR (bN rfl rfl m8) (decide_eq_false h3)) ⟨y,_,_,_,hy.mono (by decide),rfl⟩
 clear hy x4 x5 x6 y;rintro _ ⟨y,x4,x5,x6,hy,rfl⟩;exact mC ⟨y,rfl,hy⟩
abbrev TL (c:iR) (R:List Dat->Addr->Bool):Prop:=∀(d:Dr) (ab:List Dr) (ns:List Str),kh d.1->ab.length<=100->ns.length+d.2.2.1.length<=900->
 ((ab.filter λe=>decide (e.1=d.1)).length=gB d.1\/(ab.filter λe=>decide (e.1=d.1)).length≠gB d.1/\3<(eu ns d.2.2.1).length)->R [aI d,.list (ab.map aI),.list (ns.map .str)] c.fu=true
variable {c:iR}
theorem HK(T:TX mg)(R:RX P w K mg)(EK:EX K mg c)(gW:Dn P w K mg base 1 "names_with" ["names","terms"] 2 Fn)(hN:PC Fn)(U:FnAt K mg "check_room" (top 41) ["draft","above","names"]):
  ∃R,DnX P w K mg base 2 "check_room" ["draft","above","names"] 3 R/\TL c R:=by
 refine⟨_,qdnX ["draft","above","names","word"] U λnd _ _ _ _ _ _ _ _ hr hx=>(qr_tl (az 3 nd (aB (ae 0) ai))
  (qr_cons (qr_if (aX hr (aY T.len (af (dj (fK rfl (iU (tn:=["other"]) (fv:=["word"]) (js:=[3]) rfl (by decide +kernel) (by decide +kernel) rfl (by decide +kernel) (by decide +kernel) rfl
   (λx hx=>by((have jF:x="word":=(by simpa using hx));(rcases jF with rfl<;>exact⟨_,rfl⟩)))
   (λp hp=>by((have jr:p=(("word" : Str),(3:Nat)):=(by simpa using hp));(rcases jr with rfl<;>exact⟨rfl,.inr (.inl rfl),.inl rfl,λz=>by cases z⟩)))) (ae 1) (λ_ _ _ _=>(bp 0 (show(["other","word"]:List Str).Nodup by decide +kernel))) (λ_ _ _ _=>(gK (aX hr (aB (ae 0) ai) (ae 1)))) (λ_ _ _ _=>(ae 0)) (cY rfl))) ah)) (mZ R.mo (ae 3))) (qr_one (qr_raise hx EK.fu (af ar ah))) qr_no)
  (aH (aX hr (aY T.len (af (dj (fK rfl (iU (tn:=["other"]) (fv:=["word"]) (js:=[3]) rfl (by decide +kernel) (by decide +kernel) rfl (by decide +kernel) (by decide +kernel) rfl
   (λx hx=>by((have jF:x="word":=(by simpa using hx));(rcases jF with rfl<;>exact⟨_,rfl⟩)))
   (λp hp=>by((have jr:p=(("word" : Str),(3:Nat)):=(by simpa using hp));(rcases jr with rfl<;>exact⟨rfl,.inr (.inl rfl),.inl rfl,λz=>by cases z⟩)))) (ae 1) (λ_ _ _ _=>(bp 0 (show(["other","word"]:List Str).Nodup by decide +kernel))) (λ_ _ _ _=>(gK (aX hr (aB (ae 0) ai) (ae 1)))) (λ_ _ _ _=>(ae 0)) (cY rfl))) ah)) (mZ R.mo (ae 3))) (aw bS) aE)
  (qr_one (qr_if (dP (aY T.len (af (aL gW hr (af (ae 2) (af (aB (ae 0) ai) ah (hs:=aJ)))) ah (hs:=bf))) (eT R.mn)) (qr_one (qr_raise hx EK.fu (af ar ah))) qr_no)))),?_⟩
 intro d ab ns hk WQ hsz hw;have em:=E5 hk;have e0:=pQ d;have e2:=ES d;have eN:=hN ns d.2.2.1 hsz;have ec:cL (aName 0) (aZ (L3.f2 d8 (L3.f2 bu (aj 0) (fC (.int 0))) (aj 1))) (aj 0) [none,some (.str d.1)] (ab.map aI)=some ((ab.filter λe=>decide (e.1=d.1)).map aI):=
  gQ aI aI (λe=>decide (e.1=d.1)) ab λe he=>⟨[(0,aI e)],rfl,by
   have h0:=pQ e;have q:=iI e.1 d.1;generalize decide (e.1=d.1)=b at *;generalize aI e=de at *;generalize Dat.str e.1=d1 at *;generalize Dat.str d.1=d2 at *;dsimp![h0,q],λ_=>rfl⟩
 have hz:(ab.map aI).length<sizeLine:=by rw[length_map];exact bC (by omega)
 have ef:fL (d7 [none,some 3] (aName 0) (aZ (L3.f2 d8 (L3.f2 bu (aj 0) (fC (.int 0))) (aj 1))) (aj 0) (aj 1)) [some (aI d),some (.list (ab.map aI)),some (.list (ns.map .str)),some (.str d.1)]=some (.list ((ab.filter λe=>decide (e.1=d.1)).map aI)):=iG (d:=.list (ab.map aI)) (ds:=ab.map aI) rfl rfl hz ec;have l1:dC [.list ((ab.filter λe=>decide (e.1=d.1)).map aI)]=some (.int ((ab.filter λe=>decide (e.1=d.1)).length:Int)):=by
  show some (Dat.int _)=_;rw[length_map]
 have q1:=bV ((ab.filter λe=>decide (e.1=d.1)).length:Int) (gB d.1:Int);have l2:dC [.list ((eu ns d.2.2.1).map .str)]=some (.int ((eu ns d.2.2.1).length:Int)):=by
  show some (Dat.int _)=_;rw[length_map]
 have g1:=cK ((eu ns d.2.2.1).length:Int) 3;have W5:decide ((((ab.filter λe=>decide (e.1=d.1)).length:Nat):Int)=(gB d.1:Int))=true\/decide ((((ab.filter λe=>decide (e.1=d.1)).length:Nat):Int)=(gB d.1:Int))=false/\decide ((3:Int)<((eu ns d.2.2.1).length:Int))=true:=by
  rcases hw with hw|⟨h1,h2⟩
  ·exact .inl (decide_eq_true (by omega))
  ·exact .inr ⟨decide_eq_false (by omega),decide_eq_true (by omega)⟩
 clear ec hz hw;generalize decide ((((ab.filter λe=>decide (e.1=d.1)).length:Nat):Int)=(gB d.1:Int))=b1 at *;generalize (gB d.1:Int)=m at *;generalize ((ab.filter λe=>decide (e.1=d.1)).length:Int)=n1 at *;generalize ((eu ns d.2.2.1).length:Int)=n2 at *;generalize Dat.list ((ab.filter λe=>decide (e.1=d.1)).map aI)=OR at *;generalize Dat.list ((eu ns d.2.2.1).map .str)=XU at *;generalize Dat.list (d.2.2.1.map bK)=fX at *;generalize aI d=dd at *;generalize Dat.str d.1=da at *;generalize Dat.list (ab.map aI)=ju at *;generalize Dat.list (ns.map .str)=cH at *;show xSeq _ _ [~~~(dd),~~~(ju),~~~(cH),none]=true;rw[bI (au:=[~~~(dd),~~~(ju),~~~(cH),~~~(da)]) (by dsimp![e0])];have et:aZ (L3.f2 d8 (dJ dC (ax (fL (d7 [none,some 3] (aName 0) (aZ (L3.f2 d8 (L3.f2 bu (aj 0) (fC (.int 0))) (aj 1))) (aj 0) (aj 1))) aK)) (L3.f1 (td IQ) (aj 3))) (bo [~~~(dd),~~~(ju),~~~(cH),~~~(da)])=some b1:=by
  generalize fL (d7 [none,some 3] (aName 0) (aZ (L3.f2 d8 (L3.f2 bu (aj 0) (fC (.int 0))) (aj 1))) (aj 0) (aj 1))=fx at *;dsimp![ef,l1,em,q1]
 rcases W5 with hb|⟨hb,h2⟩
 ·subst hb;exact g6 ((g7 et).trans (fJ rfl (by decide)))
 ·subst hb;refine eY ((bI (au:=[~~~(dd),~~~(ju),~~~(cH),~~~(da)]) ((je et).trans rfl)).trans ?_);rw[h2]at g1;exact(g7 (by dsimp![e2,eN,l2,g1])).trans (fJ rfl (by decide))
theorem xT{α:Type}{enc:α->Dat}{gt:Dat->Option dH}{gb:aD->Option Fl}{gx:aD->Bool}(I:aD->Prop)(S bad:α->Prop)(hb:∀x Γ,S x->I Γ->bad x->∃as,gt (enc x)=some as/\gx (setG Γ as)=true)(hg:∀x Γ,S x->I Γ->¬bad x->∃as au,gt (enc x)=some as/\gb (setG Γ as)=some (.nx au)/\I au):
  ∀(l:List α) (Γ:aD),(∀x∈l,S x)->I Γ->(∃x∈l,bad x)->xForL gt gb gx (l.map enc) Γ=true
 |[],_,_,_,h=>by obtain⟨_,h,_⟩:=h;cases h
 |x::l,Γ,hS,hI,h=>by
  show xForL gt gb gx (enc x::l.map enc) Γ=true;unfold xForL;by_cases hx:bad x
  ·obtain⟨as,e1,e2⟩:=hb x Γ (hS x mem_cons_self) hI hx;rw[e1];dsimp only;rw[e2];rfl
  ·obtain⟨as,au,e1,e2,WY⟩:=hg x Γ (hS x mem_cons_self) hI hx;rw[e1];dsimp only;rw[e2];dsimp only;rw[xT I S bad hb hg l au (λy hy=>hS y (mem_cons_of_mem _ hy)) WY (by
    obtain⟨y,hy,RN⟩:=h;rcases mem_cons.mp hy with rfl|hy
    ·exact absurd RN hx
    ·exact⟨y,hy,RN⟩),Bool.or_true]
theorem EI{b:Str}(h:f ρ=some (.int (m:Int)))(hm:m<10^9)(ha:a.length<=100)(hb:b.length<=100):∃t,fFmt a b f ρ=some (.str t):=by
 have hz:(Str.ofString (toString (m:Int))).length<=10:=by rw[PySem.ofString_length];exact int_text_length_le10 (a:=(m:Int)) (k:=9) (by decide) hm
 have e0:Str.empty.length=0:=rfl;have lg:(m:Int).natAbs.log2<1920:=by
  show m.log2<1920;by_cases z:m=0
  ·subst z;decide
  ·exact(Nat.log2_lt z).mpr (lt_trans hm (lt_of_lt_of_le (show 10^9<2^30 by decide) (Nat.pow_le_pow_right (by decide) (by decide))))
 refine⟨Str.empty++a++Str.ofString (toString (m:Int))++b,?_⟩;unfold fFmt;rw[h];refine if_pos ⟨le_of_lt (bC ?_),lg,le_of_lt (bC ?_),le_of_lt (bC ?_)⟩
 ·rw[strLen_append];omega
 ·rw[strLen_append,strLen_append];omega
 ·rw[strLen_append,strLen_append,strLen_append];omega
abbrev TM (c:iR) (R:List Dat->Addr->Bool):Prop:=∀(ns:List Nat) (ab:List Dat),¬FY ns ab.length->ns.length<=100->(∀m∈ns,m<10^9)->R [.list (dQ ns),.list ab] c.nr=true
theorem count_is(ns:List Nat)(m:Nat):oI (.list (dQ ns)) [.int (m:Int)]=some (.int ((ns.count m:Nat):Int)):=by
 have e:(dQ ns).countP (λz=>kT z (.int (m:Int)))=ns.count m:=by
  rw[List.countP_map];show _=ns.countP (· == m);refine List.countP_congr λa _=>?_;show(decide ((a:Int)=(m:Int)))=true↔_;simp;omega
 rw[<- e];refine if_pos ⟨rfl,?_⟩;rw[List.all_map,all_eq_true];exact λ_ _=>rfl
theorem Nd{ns:List Nat}(h:¬FY ns n):∃m∈ns,¬(1<=m/\m<=n)\/1<ns.count m:=by
 apply Classical.byContradiction
 intro hn;refine h ⟨List.nodup_iff_count.mpr λm=>?_,λm hm=>?_,λm hm=>?_⟩
 ·by_cases hm:m∈ns
  ·have:=mt (λz=>⟨m,hm,.inr z⟩) hn;omega
  ·rw[List.count_eq_zero_of_not_mem hm];omega
 ·exact Classical.byContradiction λz=>hn ⟨m,hm,.inl λq=>z q.1⟩
 ·exact Classical.byContradiction λz=>hn ⟨m,hm,.inl λq=>z q.2⟩
theorem Lv(T:TX mg)(EK:EX K mg c)(U:FnAt K mg "check_numbers" (top 42) ["numbers","above"]):
  ∃R,DnX P w K mg base 1 "check_numbers" ["numbers","above"] 2 R/\TM c R:=by
 refine⟨_,qdnX ["numbers","above","number"] U λnd _ _ _ _ _ _ _ _ hr hx=>(qr_one (qr_for hx (ae 0) (bp 2 nd)
  (ao (aH (dM (gh ai (ae 2) (aY T.len (af (ae 1) ah)))) (aw bS) aE)
  (aw (aH (dP (qo (ae 0) (af (ae 2) ah)) ai) (aw bS) aE)))
  (qr_cons (qr_if (dM (gh ai (ae 2) (aY T.len (af (ae 1) ah)))) (qr_one (qr_raise hx EK.nr (af (qpf_fmt (ae 2)) ah))) qr_no)
  (aH (dM (gh ai (ae 2) (aY T.len (af (ae 1) ah)))) (aw bS) aE)
  (qr_one (qr_if (dP (qo (ae 0) (af (ae 2) ah)) ai) (qr_one (qr_raise hx EK.nr (af (qpf_fmt (ae 2)) ah))) qr_no))))),?_⟩
 intro ns ab h hl RY;have l1:dC [.list ab]=some (.int (ab.length:Int)):=rfl;show xFor _ _ _ _ [~~~.list (dQ ns),~~~.list ab,none]=true;unfold xFor;show xForL _ _ _ (ns.map λn:Nat=>Dat.int (n:Int)) _=true;have body:∀(m:Nat) (Γ:aD),(∃x2,Γ=[~~~.list (dQ ns),~~~.list ab,x2])->setG Γ [(2,.int (m:Int))]=[~~~.list (dQ ns),~~~.list ab,~~~.int (m:Int)]:=by
  rintro m Γ ⟨x2,rfl⟩;rfl
 have t1:∀m:Nat,gZ (aZ (ia rZ rZ (fC (.int 1)) (aj 2) (dJ dC (ax (aj 1) aK)))) (bo [~~~.list (dQ ns),~~~.list ab,~~~.int (m:Int)])=some (!(decide (1<=m/\m<=ab.length))):=λm=>by
  have a1:=dE 1 (m:Int);have a2:=dE (m:Int) (ab.length:Int);have hd:decide (1<=m/\m<=ab.length)=(decide ((1:Int)<=(m:Int))&&decide ((m:Int)<=(ab.length:Int))):=by
   rw[<- decide_and];exact decide_eq_decide.mpr (by omega)
  rw[hd];generalize decide ((1:Int)<=(m:Int))=b1 at *;generalize decide ((m:Int)<=(ab.length:Int))=b2 at *;generalize (ab.length:Int)=n at *;generalize Dat.list ab=ju at *;generalize Dat.list (dQ ns)=cH at *;generalize (m:Int)=mm at *;clear hd;cases b1<;>cases b2<;>(dsimp![ia,l1,a1,a2]<;>rfl)
 have t2:∀m:Nat,aZ (L3.f2 wR (fP oI (aj 0) (ax (aj 2) aK)) (fC (.int 1))) (bo [~~~.list (dQ ns),~~~.list ab,~~~.int (m:Int)])=some (decide (1<ns.count m)):=λm=>by
  have ec:=count_is ns m;have g1:=cK ((ns.count m:Nat):Int) 1;have hd:decide (1<ns.count m)=decide ((1:Int)<((ns.count m:Nat):Int)):=decide_eq_decide.mpr (by omega);rw[hd];generalize decide ((1:Int)<((ns.count m:Nat):Int))=b1 at *;generalize ((ns.count m:Nat):Int)=n at *;generalize Dat.list ab=ju at *;generalize Dat.list (dQ ns)=cH at *;generalize (m:Int)=mm at *;clear hd;dsimp![ec,g1]
 refine xT (λΓ=>∃x2,Γ=[~~~.list (dQ ns),~~~.list ab,x2]) (λm=>m<10^9) (λm=>¬(1<=m/\m<=ab.length)\/1<ns.count m) (λm Γ hS hI hb=>⟨[(2,.int (m:Int))],rfl,?_⟩) (λm Γ hS hI hb=>⟨[(2,.int (m:Int))],[~~~.list (dQ ns),~~~.list ab,~~~.int (m:Int)],rfl,?_,_,rfl⟩) ns _ RY ⟨none,rfl⟩ (Nd h)
 ·rw[body m Γ hI];obtain⟨t,et⟩:=EI (a:="there is no row ") (b:=" above") (f:=aj 2) (ρ:=bo [~~~.list (dQ ns),~~~.list ab,~~~.int (m:Int)]) (m:=m) rfl hS (by decide) (by decide);obtain⟨t',XA⟩:=EI (a:="row ") (b:=" is told twice") (f:=aj 2) (ρ:=bo [~~~.list (dQ ns),~~~.list ab,~~~.int (m:Int)]) (m:=m) rfl hS (by decide) (by decide);by_cases z:1<=m/\m<=ab.length
  ·have h1:=t1 m;rw[decide_eq_true z]at h1;have h2:=t2 m;rw[decide_eq_true (hb.resolve_left λq=>q z)]at h2;refine eY ((bI ((je h1).trans rfl)).trans ((g7 h2).trans (fJ (ds:=[.str t']) ?_ (Nat.succ_le_of_lt (succ_pos 2)))));show ax _ aK _=_;unfold ax aK;rw[XA];rfl
  ·have h1:=t1 m;rw[decide_eq_false z]at h1;refine g6 ((g7 h1).trans (fJ (ds:=[.str t]) ?_ (Nat.succ_le_of_lt (succ_pos 2))));show ax _ aK _=_;unfold ax aK;rw[et];rfl
 ·rw[body m Γ hI];have z:1<=m/\m<=ab.length:=Classical.byContradiction λz=>hb (.inl z);have h1:=t1 m;rw[decide_eq_true z]at h1;have h2:=t2 m;rw[decide_eq_false λq=>hb (.inr q)]at h2;exact(aG ((je h1).trans rfl)).trans ((je h2).trans rfl)
structure TQ (c:iR) (R:List Dat->Addr->Bool):Prop where
 np:∀(dd cH:Dat) (ab:List Dr) (n:Str),R [dd,.list (ab.map aI++[cw n]),cH] c.np=true
 fu:∀(d:Dr) (ab:List Dr) (ns:List Str),kh d.1->(∀e∈ab,kh e.1)->ab.length<=100->ns.length+d.2.2.1.length<=900->
  ((ab.filter λe=>decide (e.1=d.1)).length=gB d.1\/(ab.filter λe=>decide (e.1=d.1)).length≠gB d.1/\3<(eu ns d.2.2.1).length)->R [aI d,.list (ab.map aI),.list (ns.map .str)] c.fu=true
 nr:∀(d:Dr) (ab:List Dr) (ns:List Str),kh d.1->(∀e∈ab,kh e.1)->ab.length<=100->ns.length+d.2.2.1.length<=900->(ab.filter λe=>decide (e.1=d.1)).length<gB d.1->(eu ns d.2.2.1).length<=3->
  ¬FY d.2.2.2 ab.length->d.2.2.2.length<=100->(∀m∈d.2.2.2,m<10^9)->R [aI d,.list (ab.map aI),.list (ns.map .str)] c.nr=true
 nn:∀(n:Str) (ab:List Dr) (ns:List Str),(∀e∈ab,kh e.1)->n∉ns->R [cw n,.list (ab.map aI),.list (ns.map .str)] c.nn=true
theorem Hg(l:List Dat)(d:Dat):bu (.list (l++[d])) (.int (-1))=some d:=by
 show iZ (l++[d]) (-1)=_;unfold iZ sd;rw[if_neg (by decide),length_append,if_pos (by simp;omega),Option.bind_some];rw[show((-1:Int)+((l.length + [d].length:Nat):Int)).toNat=l.length by simp;omega];simp
noncomputable abbrev tA:ay->Option Bool:=kD (ja (aj 1)) (aZ (L3.f2 d8 (L3.f2 bu (L3.f2 bu (aj 1) (L3.f1 qx (fC (.int 1)))) (fC (.int 0))) (fC (.str "ask"))))
variable {Rr:List Dat->Addr->Bool}
theorem HL(T:TX mg)(EK:EX K mg c){Fn:List Dat->Option Dat}(og:Dn P w K mg base 2 "check_room" ["draft","above","names"] 3 Fr)(hR:PU Fr){Rn:List Dat->Addr->Bool}(Ao:DnX P w K mg base 2 "check_room" ["draft","above","names"] 3 Rr)(WV:TL c Rr)(vT:DnX P w K mg base 2 "check_numbers" ["numbers","above"] 2 Rn)(Jm:TM c Rn)(U:FnAt K mg "check" (top 43) ["draft","above","names"]):
  ∃R,DnX P w K mg base 3 "check" ["draft","above","names"] 3 R/\TQ c R:=by
 refine⟨_,qdnX ["draft","above","names"] U λnd _ _ _ _ _ _ _ _ hr hx=>(qr_cons (qr_if (cE (cz (bM (ae 1)) (cX (aX hr (aB (aB (ae 1) (mK ai)) ai) ar)))) (qr_one (qr_raise hx EK.np (af ar ah))) qr_no)
  (aH (cE (cz (bM (ae 1)) (cX (aX hr (aB (aB (ae 1) (mK ai)) ai) ar)))) (aw bS) aE)
  (qr_one (qr_if (gH hr (aB (ae 0) ai) ar) (qr_cons (qr_expr (qre_call Ao hr hx (af (ae 0) (af (ae 1) (af (ae 2) ah)))))
  (lI (aL og hr (af (ae 0) (af (ae 1) (af (ae 2) ah)))))
  (qr_one (qr_expr (qre_call vT hr hx (af (aB (ae 0) ai) (af (ae 1) ah) (hs:=aJ)) (he:=aJ)))))
  (qr_one (qr_if (iA (aB (ae 0) ai) (ae 2)) (qr_one (qr_raise hx EK.nn (af ar ah))) qr_no))))),?_⟩
 have N7:∀{ab:List Dr} (ka:∀e∈ab,kh e.1) (dd cH:Dat),eI tA qe dX [~~~(dd),~~~.list (ab.map aI),~~~(cH)]=some (.nx [~~~(dd),~~~.list (ab.map aI),~~~(cH)]):=λka dd cH=>tw ka dd cH;refine⟨λdd cH ab n=>?_,λd ab ns hk ka hl hz hw=>?_,λd ab ns hk ka hl hz hc hn ho hm h9=>?_,λn ab ns ka hn=>?_⟩
 ·refine g6 ((g7 (?_:tA (bo [~~~dd,~~~.list (ab.map aI++[cw n]),~~~cH])=some true)).trans (fJ rfl (by decide)));have el:=Hg (ab.map aI) (cw n);have e0:bu (cw n) (.int 0)=some (.str sA):=rfl;have q:d8 (.str sA) (.str "ask")=some (.bool true):=rfl;have h1:ja (aj 1) (bo [~~~dd,~~~.list (ab.map aI++[cw n]),~~~cH])=some true:=by
   show vg (.list (ab.map aI++[cw n]))=some true;cases ab<;>rfl
  have h2:aZ (L3.f2 d8 (L3.f2 bu (L3.f2 bu (aj 1) (L3.f1 qx (fC (.int 1)))) (fC (.int 0))) (fC (.str "ask"))) (bo [~~~dd,~~~.list (ab.map aI++[cw n]),~~~cH])=some true:=by
   clear h1;generalize Dat.list (ab.map aI++[cw n])=dl at *;generalize cw n=da at *;generalize Dat.str sA=ds at *;dsimp![el,e0,q]
  show kD _ _ _=_;unfold kD;rw[h1];exact h2
 ·have e0:=pQ d;obtain⟨_,q1⟩:=lM hk;have hx:=WV d ab ns hk hl hz hw;refine eY ((bI (N7 ka _ _)).trans ((g7 (?_:aZ (L3.f2 gi (L3.f2 bu (aj 0) (fC (.int 0))) (fC (.str "ask"))) (bo _)=some true)).trans (g6 ?_)))
  ·generalize aI d=dd at *;generalize Dat.str d.1=da at *;generalize Dat.list (ab.map aI)=ju at *;generalize Dat.list (ns.map .str)=cH at *;dsimp![e0,q1]
  ·exact gk (ds:=[aI d,.list (ab.map aI),.list (ns.map .str)]) rfl rfl hx
 ·have e0:=pQ d;have e3:=OM d;obtain⟨_,q1⟩:=lM hk;have eR:=hR d ab ns hk hl hc hz hn;have hx:=Jm d.2.2.2 (ab.map aI) (by rw[length_map];exact ho) hm h9;refine eY ((bI (N7 ka _ _)).trans ((g7 (?_:aZ (L3.f2 gi (L3.f2 bu (aj 0) (fC (.int 0))) (fC (.str "ask"))) (bo _)=some true)).trans (eY ((bI (au:=[~~~(aI d),~~~.list (ab.map aI),~~~.list (ns.map .str)]) ?_).trans ?_))))
  ·generalize aI d=dd at *;generalize Dat.str d.1=da at *;generalize Dat.list (ab.map aI)=ju at *;generalize Dat.list (ns.map .str)=cH at *;dsimp![e0,q1]
  ·clear hx;generalize aI d=dd at *;generalize Dat.list (ab.map aI)=ju at *;generalize Dat.list (ns.map .str)=cH at *;dsimp![eR]
  ·have ea:ax (L3.f2 bu (aj 0) (fC (.int 3))) (ax (aj 1) aK) (bo [~~~(aI d),~~~.list (ab.map aI),~~~.list (ns.map .str)])=some [.list (dQ d.2.2.2),.list (ab.map aI)]:=by
    clear hx eR;generalize Dat.list (dQ d.2.2.2)=Ss at *;generalize aI d=dd at *;generalize Dat.list (ab.map aI)=ju at *;generalize Dat.list (ns.map .str)=cH at *;dsimp![e3]
   exact gk ea rfl hx
 ·have e0:bu (cw n) (.int 0)=some (.str sA):=rfl;have e1:bu (cw n) (.int 1)=some (.str n):=rfl;have q1:gi (.str sA) (.str "ask")=some (.bool false):=rfl;have q2:=k7 n ns;rw[show ns.contains n=false from by simpa using hn]at q2;refine eY ((bI (N7 ka _ _)).trans ((Q2 (?_:aZ (L3.f2 gi (L3.f2 bu (aj 0) (fC (.int 0))) (fC (.str "ask"))) (bo _)=some false)).trans ((g7 (?_:_=some true)).trans (fJ rfl (by decide)))))
  ·generalize cw n=dd at *;generalize Dat.str sA=da at *;generalize Dat.list (ab.map aI)=ju at *;generalize Dat.list (ns.map .str)=cH at *;dsimp![e0,q1]
  ·generalize cw n=dd at *;generalize Dat.str n=dn at *;generalize Dat.list (ab.map aI)=ju at *;generalize Dat.list (ns.map .str)=cH at *;dsimp![e1,q2]
noncomputable def rY (k l r:Str) (ns:List Str):Bool:=Bb k&&(fw l&&(fw r&&ns.all f6))
structure Pw (c:iR) (R:List Dat->Addr->Bool):Prop where
 gv:∀(x l k r:Str),Tok x->bE 32 x=[sG,l,k,r]->rY k l r []=false->R [.str x] c.nf=true
 gn:∀(x:Str) (t:List Str),Tok x->bE 32 x=sG::t->t.length≠3->R [.str x] c.nf=true
 so:∀(x l k r u:Str) (fs:List Str),Tok x->bE 32 x=sS::l::k::r::u::fs->(decide (1<=fs.length/\fs.length<=6)&&(decide (u=sF)&&rY k l r fs))=false->R [.str x] c.nf=true
theorem Li(T:TX mg)(R:RX P w K mg)(EK:EX K mg c){Rl:List Dat->Addr->Bool}(kM:va P w K mg base 7 "read_line" ["word","left","sign","right","numbers"] 5 xo)(uW:DnXT P w K mg base 7 "read_line" ["word","left","sign","right","numbers"] 5 Rl)(hL:SN c Rl)(fT:Dn P w K mg base 7 "is_name" ["word"] 1 Fi)(U:FnAt K mg "read_row" (top 39) ["row"]):
  ∃R,DnX P w K mg base 8 "read_row" ["row"] 1 R/\Pw c R:=by
 refine⟨_,qdnX ["row","words"] U λnd _ _ _ _ _ _ _ _ hr hx=>(qr_split 1 nd (ae 0)
  (tr_cons (tr_if (cE (cz (aX hr (aB (ae 1) ai) ar) (cX (aX hr (aY T.len (af (ae 1) ah)) ai)))) (tr_one (tr_ret (tre_callT uW hr hx (af ar (af (aB (ae 1) ai) (af (aB (ae 1) ai) (af (aB (ae 1) ai) (af (cq ah) ah (hs:=jJ)) (hs:=aJ)) (hs:=aJ)) (hs:=aJ)))))) (trs_of qr_no)) (rz (cE (cz (aX hr (aB (ae 1) ai) ar) (cX (aX hr (aY T.len (af (ae 1) ah)) ai)))) (p0 (oZ (jg kM hr (hV (af ar (af (aB (ae 1) ai) (af (aB (ae 1) ai) (af (aB (ae 1) ai) (af (cq ah) ah (hs:=jJ)) (hs:=aJ)) (hs:=aJ)) (hs:=aJ))))))) (jK aE))
  (tr_cons (tr_if (cE (cz (aX hr (aB (ae 1) ai) ar) (cz (gh ai (aY T.len (af (ae 1) ah)) (fm ai (eT R.mm))) (cX (aX hr (aB (ae 1) ai) ar))))) (tr_one (tr_ret (tre_callT uW hr hx (af ar (af (aB (ae 1) ai) (af (aB (ae 1) ai) (af (aB (ae 1) ai) (af (iC (ae 1) (aV ai) bj) ah (hs:=aJ)) (hs:=aJ)) (hs:=aJ)) (hs:=aJ)))))) (trs_of qr_no)) (rz (cE (cz (aX hr (aB (ae 1) ai) ar) (cz (gh ai (aY T.len (af (ae 1) ah)) (fm ai (eT R.mm))) (cX (aX hr (aB (ae 1) ai) ar))))) (p0 (oZ (jg kM hr (hV (af ar (af (aB (ae 1) ai) (af (aB (ae 1) ai) (af (aB (ae 1) ai) (af (iC (ae 1) (aV ai) bj) ah (hs:=aJ)) (hs:=aJ)) (hs:=aJ)) (hs:=aJ))))))) (jK aE))
  (trs_of (qr_tl (aH (cE (cz (aX hr (aB (ae 1) ai) ar) (cz (aX hr (aY T.len (af (ae 1) ah)) ai) (cX (bM (aL fT hr (af (aB (ae 1) ai) ah (hs:=aJ)))))))) (aw (aN (dZ (k:=0) (af ar (af (aB (ae 1) ai) ah (hs:=aJ)))))) aE)
  (qr_hd (qr_raise hx EK.nf (af ar ah)))))))),?_⟩
 have z0:0<=sizeLine:=zero_le _;have z2:2<=sizeLine:=sz (by decide);have i7:∀x:Str,Tok x->eO (.str x) [.str " "]=some ((bE 32 x).map .str):=λx hx=>by
  rw[show(" " : Str)=⟨#[32]⟩from P6];exact n8 (by decide) hx.l
 have RU:∀x:Str,Tok x->∀y∈bE 32 x,Tok y:=λx hx y hy=>jh (by decide) hx hy;refine⟨λx l k r hx hp hb=>?_,λx t hx hp hl=>?_,λx l k r u fs hx hp hb=>?_⟩
 ·have ew:=i7 x hx;have ht:=RU x hx;rw[hp]at ew ht;have hR:=hL sG l k r [] (ht l (by simp)) (ht r (by simp)) (λn hn=>by cases hn) (zero_le _) hb;rw[map_cons,map_cons,map_cons,map_cons,map_nil]at ew;have lp:dC [.list [.str sG,.str l,.str k,.str r]]=some (.int 4):=rfl;have i0:bu (.list [.str sG,.str l,.str k,.str r]) (.int 0)=some (.str sG):=rfl;have i1:bu (.list [.str sG,.str l,.str k,.str r]) (.int 1)=some (.str l):=rfl;have i2:bu (.list [.str sG,.str l,.str k,.str r]) (.int 2)=some (.str k):=rfl;have i3:bu (.list [.str sG,.str l,.str k,.str r]) (.int 3)=some (.str r):=rfl;have q0:d8 (.str sG) (.str "given")=some (.bool true):=rfl;have q4:=bV 4 4;rw[decide_eq_true rfl]at q4;have hR:Rl [.str (Str.ofString "given"),.str l,.str k,.str r,.list []] c.nf=true:=hR;show xSeq _ _ [~~~.str x,none]=true;generalize Dat.str sG=dg at *;generalize Dat.str l=dl at *;generalize Dat.str k=dk at *;generalize Dat.str r=dr at *;generalize Dat.str x=dx at *;rw[bI (au:=[~~~(dx),~~~.list [dg,dl,dk,dr]]) (by dsimp![eD,ew])];generalize Dat.list [dg,dl,dk,dr]=kU at *;refine g6 ((g7 (by dsimp![i0,lp,q0,q4])).trans (gk (ds:=[dg,dl,dk,dr,.list []]) ?_ rfl hR));dsimp![i1,i2,i3,z0]
 ·have ew:=i7 x hx;rw[hp]at ew;have lp:=C6 ((sG::t).map .str);have i0:bu (.list ((sG::t).map .str)) (.int 0)=some (.str sG):=L3.fo (k:=0) rfl;have q0:d8 (.str sG) (.str "given")=some (.bool true):=rfl;have q1:d8 (.str sG) (.str "so")=some (.bool false):=rfl;have q2:d8 (.str sG) (.str "ask")=some (.bool false):=rfl;have q4:=bV (((sG::t).map Dat.str).length:Int) 4;rw[decide_eq_false (by rw[length_map,length_cons];omega)]at q4;show xSeq _ _ [~~~.str x,none]=true;generalize (((sG::t).map Dat.str).length:Int)=n at *;generalize (sG::t).map Dat.str=Jv at *;generalize Dat.str sG=dg at *;generalize Dat.str x=dx at *;rw[bI (au:=[~~~(dx),~~~.list Jv]) (by dsimp![eD,ew])];generalize Dat.list Jv=kU at *;refine eY ((bI (au:=[~~~(dx),~~~(kU)]) (by dsimp![i0,lp,q0,q4])).trans ?_);refine eY ((bI (au:=[~~~(dx),~~~(kU)]) (by dsimp![i0,q1])).trans ?_);refine(bI (au:=[~~~(dx),~~~(kU)]) (by dsimp![i0,q2])).trans (fJ rfl (by decide))
 ·have ew:=i7 x hx;have ht:=RU x hx;have RO:=hx.l;have Cg:=mL (c:=32) (by decide) x;rw[hp]at ew ht Cg;have lp:dC [.list ((sS::l::k::r::u::fs).map .str)]=some (.int ((5+fs.length:Nat):Int)):=by
   show some (Dat.int (((sS::l::k::r::u::fs).map Dat.str).length:Int))=_;rw[length_map];congr 2
   simp only[length_cons];omega
  have WE:fs.length<=4000:=by simp only[length_cons]at Cg;omega
  have i0:bu (.list ((sS::l::k::r::u::fs).map .str)) (.int 0)=some (.str sS):=L3.fo (k:=0) rfl;have i1:bu (.list ((sS::l::k::r::u::fs).map .str)) (.int 1)=some (.str l):=L3.fo (k:=1) rfl;have i2:bu (.list ((sS::l::k::r::u::fs).map .str)) (.int 2)=some (.str k):=L3.fo (k:=2) rfl;have i3:bu (.list ((sS::l::k::r::u::fs).map .str)) (.int 3)=some (.str r):=L3.fo (k:=3) rfl;have i4:bu (.list ((sS::l::k::r::u::fs).map .str)) (.int 4)=some (.str u):=L3.fo (k:=4) rfl;have sl:rW (.list ((sS::l::k::r::u::fs).map .str)) (some 5) none=some (.list (fs.map .str)):=L3.jV (ds:=(sS::l::k::r::u::fs).map .str) (m:=5);have q0:d8 (.str sS) (.str "given")=some (.bool false):=rfl;have q1:d8 (.str sS) (.str "so")=some (.bool true):=rfl;have q2:d8 (.str sS) (.str "ask")=some (.bool false):=rfl;have q3:d8 (.str u) (.str "from")=some (.bool (decide (u=sF))):=iI u sF;have l1:=dE 6 ((5+fs.length:Nat):Int);have l2:=dE ((5+fs.length:Nat):Int) 11;have a1:mf (.int 5) (.int 6)=some (.int 11):=gz 5 6;have hR:=λh=>hL sS l k r fs (ht l (by simp)) (ht r (by simp)) (λn hn=>ht n (by simp[hn])) WE h;have hR:rY k l r fs=false->Rl [.str (Str.ofString "so"),.str l,.str k,.str r,.list (fs.map .str)] c.nf=true:=hR;have hlen:decide (1<=fs.length/\fs.length<=6)=(decide ((6:Int)<=((5+fs.length:Nat):Int))&&decide (((5+fs.length:Nat):Int)<=11)):=by
   rw[<- decide_and];exact decide_eq_decide.mpr (by omega)
  rw[hlen]at hb;clear hlen Cg;show xSeq _ _ [~~~.str x,none]=true;rw[bI (au:=[~~~.str x,~~~.list ((sS::l::k::r::u::fs).map .str)]) (by
   generalize (sS::l::k::r::u::fs).map Dat.str=Jv at *;generalize Dat.str x=dx at *;dsimp![eD,ew])]
  generalize Dat.list ((sS::l::k::r::u::fs).map .str)=kU at *;generalize Dat.list (fs.map .str)=d1 at *;generalize decide ((6:Int)<=((5+fs.length:Nat):Int))=b1 at *;generalize decide (((5+fs.length:Nat):Int)<=11)=b2 at *;generalize decide (u=sF)=b3 at *;generalize ((5+fs.length:Nat):Int)=m5 at *;generalize rY k l r fs=b4 at *;generalize Dat.str sS=dg at *;generalize Dat.str u=df at *;generalize Dat.str l=dl at *;generalize Dat.str k=dk at *;generalize Dat.str r=dr at *;generalize Dat.str x=dx at *;refine eY ((bI (au:=[~~~(dx),~~~(kU)]) (by dsimp![i0,q0])).trans ?_);cases b1 with
  |false=>
   refine eY ((bI (au:=[~~~(dx),~~~(kU)]) (by dsimp![ia,i0,q1,lp,l1,l2,a1])).trans ?_);exact(bI (au:=[~~~(dx),~~~(kU)]) (by dsimp![i0,q2])).trans (fJ rfl (by decide))
  |true=>
   cases b2 with
   |false=>
    refine eY ((bI (au:=[~~~(dx),~~~(kU)]) (by dsimp![ia,i0,q1,lp,l1,l2,a1])).trans ?_);exact(bI (au:=[~~~(dx),~~~(kU)]) (by dsimp![i0,q2])).trans (fJ rfl (by decide))
   |true=>
    cases b3 with
    |false=>
     refine eY ((bI (au:=[~~~(dx),~~~(kU)]) (by dsimp![ia,i0,i4,q1,q3,lp,l1,l2,a1])).trans ?_);exact(bI (au:=[~~~(dx),~~~(kU)]) (by dsimp![i0,q2])).trans (fJ rfl (by decide))
    |true=>
     have hb:b4=false:=hb;refine g6 ((g7 (by dsimp![ia,i0,i4,q1,q3,lp,l1,l2,a1])).trans (gk (ds:=[dg,dl,dk,dr,d1]) ?_ rfl (hR hb)));dsimp![i1,i2,i3,o9,dI,eE,kg,sl]
structure V7 (Fr Fc:List Dat->Option Dat) (Fw:List Dat->Option (List Dat)) (Rw Rc:List Dat->Addr->Bool) (C:Addr) (x:Str) (pre:List Rp) (ak:Option (Str×Str)) (t:Str) (dd:Dat) (rest:List Str):Prop where
 sp:(pre.map λp=>tl p.1)++((ak.toList.map λq=>tl q.1)++tl t::rest.map tl)=Tx.bB 10 (tl x)
 xl:x.length<=100000
 l:pre.length+ak.toList.length+1+rest.length<=40
 st:∀a p b,pre=a++p::b->Fr [.str p.1]=some (aI p.2)/\Fc [aI p.2,.list (a.map λq=>aI q.2),.list ((cA a).map .str)]=some .none/\kh p.2.1/\Fw [.list ((cA a).map .str),.list (p.2.2.2.1.map bK)]=some ((cA (a++[p])).map .str)
 ka:∀q,ak=some q->Fr [.str q.1]=some (cw q.2)/\Fc [cw q.2,.list (pre.map λq=>aI q.2),.list ((cA pre).map .str)]=some .none
 b:Rw [.str t] C=true\/Fr [.str t]=some dd/\Rc [dd,.list ((pre.map λq=>aI q.2)++(ak.toList.map λq=>cw q.2)),.list ((cA pre).map .str)] C=true
abbrev FU (Fr Fc:List Dat->Option Dat) (Fw:List Dat->Option (List Dat)) (Rw Rc:List Dat->Addr->Bool) (R:List Dat->Addr->Bool):Prop:=∀C x pre ak t dd rest,V7 Fr Fc Fw Rw Rc C x pre ak t dd rest->R [.str x] C=true
theorem xU{gb:aD->Option Fl}{gx:aD->Bool}(h1:gt d=some as)(h2:gb (setG Γ as)=some (.nx au))(h3:xForL gt gb gx ds au=true):xForL gt gb gx (d::ds) Γ=true:=by
 unfold xForL;rw[h1];dsimp only;rw[h2];dsimp only;rw[h3,Bool.or_true]
theorem CO{gb:aD->Option Fl}{gx:aD->Bool}(h1:gt d=some as)(h2:gx (setG Γ as)=true):xForL gt gb gx (d::ds) Γ=true:=by
 unfold xForL;rw[h1];dsimp only;rw[h2];rfl
variable {Rc:List Dat->Addr->Bool}
theorem Ln(T:TX mg)(R:RX P w K mg)(nX:Dn P w K mg base 8 "read_row" ["row"] 1 Fr)(FL:DnX P w K mg base 8 "read_row" ["row"] 1 Rw)(Ag:Dn P w K mg base 8 "check" ["draft","above","names"] 3 Fc)(Pm:DnX P w K mg base 8 "check" ["draft","above","names"] 3 Rc)(gW:sD P w K mg base 8 "names_with" ["names","terms"] 2 Fw)(U:FnAt K mg "read" (top 46) ["text"]):
  ∃Rr,DnX P w K mg base 9 "read" ["text"] 1 Rr/\FU Fr Fc Fw Rw Rc Rr:=by
 refine⟨_,qdnX ["text","rows","drafts","names","row","draft","last","asked"] U λnd _ _ _ _ _ _ _ _ hr hx=>(qr_tl (az 1 nd (gM (ae 0) (af ar ah)))
  (qr_tl (aH (dP (aY T.len (af (ae 1) ah)) (eT R.mr)) (aw bS) aE)
  (qr_tl (iy 2 nd (j6 ah))
  (qr_tl (iy 3 nd (j6 ah))
  (qr_hd (qr_for hx (ae 1) (bp 4 nd)
  (ao (az 5 nd (aL nX hr (af (ae 4) ah)))
  (ao (lI (aL Ag hr (af (ae 5) (af (ae 2) (af (ae 3) ah)))))
  (ao (gU 2 (ae 5))
  (aw (aH (gH hr (aB (ae 5) ai) ar) (aw (qh 3 nd (yC gW hr (af (ae 3) (af (aB (ae 5) ai) ah (hs:=aJ)))))) aE)))))
  (qr_cons (qr_set 5 nd (qre_call FL hr hx (af (ae 4) ah))) (az 5 nd (aL nX hr (af (ae 4) ah)))
  (qr_hd (qr_expr (qre_call Pm hr hx (af (ae 5) (af (ae 2) (af (ae 3) ah)))))))))))))
  ,?_⟩
 intro C x pre ak t dd rest I;have z0:0<=sizeLine:=zero_le _;obtain⟨ys,e1,e2⟩:=wc (x:=x) (c:=10) (by decide) I.xl;have ey:ys=pre.map (·.1)++(ak.toList.map (·.1)++t::rest):=dO (by rw[e1,<- I.sp,map_append,map_append,map_map,map_map,map_cons];rfl);have e3:eO (.str x) [.str "\n"]=some ((pre.map λp=>Dat.str p.1)++((ak.toList.map λq=>Dat.str q.1)++Dat.str t::rest.map Dat.str)):=by rw[show("\n" : Str)=⟨#[10]⟩from P5,e2,ey,map_append,map_append,map_map,map_map,map_cons];rfl
 clear e1 e2 ey ys;obtain⟨m,lp,hm⟩:∃m:Int,dC [.list ((pre.map λp=>Dat.str p.1)++((ak.toList.map λq=>Dat.str q.1)++Dat.str t::rest.map Dat.str))]=some (.int m)/\m<=40:=by
  refine⟨_,rfl,?_⟩;rw[length_append,length_append,length_map,length_map,length_cons,length_map];have:=I.l;omega
 have g1:=cK m 40;rw[decide_eq_false (by omega)]at g1;generalize NQ:(pre.map λp=>Dat.str p.1)++((ak.toList.map λq=>Dat.str q.1)++Dat.str t::rest.map Dat.str)=rs at *;show xSeq _ _ [~~~.str x,none,none,none,none,none,none,none]=true;rw[bI (au:=[~~~.str x,~~~.list rs,none,none,none,none,none,none]) (by
  generalize Dat.str x=dx at *;dsimp![eD,e3])]
 rw[bI (au:=[~~~.str x,~~~.list rs,none,none,none,none,none,none]) (by
  generalize Dat.str x=dx at *;generalize Dat.list rs=ir at *;dsimp![lp,g1])]
 rw[bI (au:=[~~~.str x,~~~.list rs,some (.own ([])),none,none,none,none,none]) (by
  generalize Dat.str x=dx at *;generalize Dat.list rs=ir at *;dsimp![z0])]
 rw[bI (au:=[~~~.str x,~~~.list rs,some (.own ([])),some (.own ([])),none,none,none,none]) (by
  generalize Dat.str x=dx at *;generalize Dat.list rs=ir at *;dsimp![z0])]
 show xForL _ _ _ rs _=true;have loop:∀(post a:List Rp) (x4 x5:Option Slot),pre=a++post->xForL (aName 4) (bG (cW 5 (cu 1 Fr (ax (aj 4) aK))) (bG (rn (cu 3 Fc (ax (aj 5) (ax (aj 2) (ax (aj 3) aK))))) (bG (lZ 2 (aj 5)) (eI (aZ (L3.f2 gi (L3.f2 bu (aj 5) (fC (.int 0))) (fC (.str "ask")))) (oR 3 (vK 2 Fw (ax (aj 3) (ax (L3.f2 bu (aj 5) (fC (.int 2))) aK)))) dX))))
   (xOr (xE (xFn 1 Rw C (ax (aj 4) aK))) (xSeq (cW 5 (cu 1 Fr (ax (aj 4) aK))) (xE (xFn 3 Rc C (ax (aj 5) (ax (aj 2) (ax (aj 3) aK)))))))
   ((post.map λp=>Dat.str p.1)++((ak.toList.map λq=>Dat.str q.1)++Dat.str t::rest.map Dat.str)) [~~~.str x,~~~.list rs,some (.own (a.map λq=>aI q.2)),some (.own ((cA a).map .str)),x4,x5,none,none]=true:=by
  intro post;induction post with
  |nil=>
   intro a x4 x5 hp;rw[append_nil]at hp;subst hp;have last:∀(dpre:List Dat) (x4 x5:Option Slot),dpre=(pre.map λq=>aI q.2)++(ak.toList.map λq=>cw q.2)->xForL (aName 4) (bG (cW 5 (cu 1 Fr (ax (aj 4) aK))) (bG (rn (cu 3 Fc (ax (aj 5) (ax (aj 2) (ax (aj 3) aK))))) (bG (lZ 2 (aj 5)) (eI (aZ (L3.f2 gi (L3.f2 bu (aj 5) (fC (.int 0))) (fC (.str "ask")))) (oR 3 (vK 2 Fw (ax (aj 3) (ax (L3.f2 bu (aj 5) (fC (.int 2))) aK)))) dX))))
     (xOr (xE (xFn 1 Rw C (ax (aj 4) aK))) (xSeq (cW 5 (cu 1 Fr (ax (aj 4) aK))) (xE (xFn 3 Rc C (ax (aj 5) (ax (aj 2) (ax (aj 3) aK)))))))
     (Dat.str t::rest.map Dat.str) [~~~.str x,~~~.list rs,some (.own dpre),some (.own ((cA pre).map .str)),x4,x5,none,none]=true:=by
    intro dpre x4 x5 hd;have sb:=I.b;rw[<- hd]at sb;refine CO (as:=[(4,.str t)]) rfl ?_;dsimp!;clear hd;generalize (cA pre).map Dat.str=kW at *;generalize Dat.str t=dt at *;generalize Dat.str x=dx at *;generalize Dat.list rs=ir at *;rcases sb with sb|⟨s1,s2⟩
    ·exact g6 (gk (ds:=[dt]) rfl rfl sb)
    ·refine eY ?_;rw[bI (au:=[~~~(dx),~~~(ir),some (.own (dpre)),some (.own (kW)),~~~(dt),~~~(dd),none,none]) (by dsimp![s1])];exact gk (ds:=[dd,.list dpre,.list kW]) rfl rfl s2
   cases uE:ak with
   |none=>
    rw[uE]at last;exact last _ x4 x5 (by simp)
   |some q=>
    obtain⟨s1,s2⟩:=I.ka q uE;have e0:bu (cw q.2) (.int 0)=some (.str sA):=rfl;have q1:gi (.str sA) (.str "ask")=some (.bool false):=rfl;have zl:(pre.map λq=>aI q.2).length<sizeLine:=by rw[length_map];exact bC (by have:=I.l;omega)
    show xForL _ _ _ (Dat.str q.1::Dat.str t::rest.map Dat.str) _=true;refine xU (as:=[(4,.str q.1)]) (au:=[~~~.str x,~~~.list rs,some (.own ((pre.map λq=>aI q.2)++[cw q.2])),some (.own ((cA pre).map .str)),~~~.str q.1,~~~(cw q.2),none,none]) rfl ?_ (last _ _ _ (by rw[uE];rfl));dsimp!;clear last;generalize (pre.map λq=>aI q.2)=dpre at *;generalize (cA pre).map Dat.str=kW at *;generalize cw q.2=Jz at *;generalize Dat.str sA=da at *;generalize Dat.str q.1=dp at *;generalize Dat.str x=dx at *;generalize Dat.list rs=ir at *;rw[aG (au:=[~~~(dx),~~~(ir),some (.own (dpre)),some (.own (kW)),~~~(dp),~~~(Jz),none,none]) (by dsimp![s1])];rw[aG (au:=[~~~(dx),~~~(ir),some (.own (dpre)),some (.own (kW)),~~~(dp),~~~(Jz),none,none]) (by dsimp![s2])];rw[aG (au:=[~~~(dx),~~~(ir),some (.own (dpre++[Jz])),some (.own (kW)),~~~(dp),~~~(Jz),none,none]) (by dsimp![zl])];dsimp![e0,q1]
  |cons p post ih=>
   intro a x4 x5 hp;obtain⟨s1,s2,s3,s4⟩:=I.st a p post hp;have bW:pre.length=a.length+(post.length+1):=by rw[hp,length_append,length_cons]
   have UQ:=I.l;have e:=ih (a++[p]) (some (.ag (.str p.1))) (some (.ag (aI p.2))) (by rw[hp,append_assoc];rfl);rw[map_cons,cons_append];refine xU (as:=[(4,.str p.1)]) rfl ?_ e;dsimp!;have e0:=pQ p.2;have e2:=ES p.2;obtain⟨_,q1⟩:=lM s3;have zl:(a.map λq=>aI q.2).length<sizeLine:=by rw[length_map];exact bC (by omega)
   have ma:(a++[p]).map (λq:Rp=>aI q.2)=(a.map λq=>aI q.2)++[aI p.2]:=by rw[map_append];rfl
   have zt:=yf (cA (a++[p]));rw[ma];clear e ih ma;generalize (a.map λq=>aI q.2)=dpre at *;generalize (cA (a++[p])).map Dat.str=OO at *;generalize (cA a).map Dat.str=kW at *;generalize Dat.list (p.2.2.2.1.map bK)=fX at *;generalize aI p.2=dd at *;generalize Dat.str p.2.1=da at *;generalize Dat.str p.1=dp at *;generalize Dat.str x=dx at *;generalize Dat.list rs=ir at *;rw[aG (au:=[~~~(dx),~~~(ir),some (.own (dpre)),some (.own (kW)),~~~(dp),~~~(dd),none,none]) (by dsimp![s1])];rw[aG (au:=[~~~(dx),~~~(ir),some (.own (dpre)),some (.own (kW)),~~~(dp),~~~(dd),none,none]) (by dsimp![s2])];rw[aG (au:=[~~~(dx),~~~(ir),some (.own (dpre++[dd])),some (.own (kW)),~~~(dp),~~~(dd),none,none]) (by dsimp![zl])];refine(my (by dsimp![e0,q1])).trans (vB (ds:=OO) ?_ zt);dsimp![e2,s4]
 have fin:=loop pre [] none none rfl;rw[NQ]at fin;exact fin
structure JT where
 sh:Addr
 ny:Addr
 ns:Addr
structure PM (mg:Str->Option Value) (e:JT):Prop where
 sh:mg "NoShape"=some (.ref e.sh)
 ny:mg "NoneYet"=some (.ref e.ny)
 ns:mg "NotSo"=some (.ref e.ns)
 ve:mg "ValueError"=none
structure Tells (K:Fg) (c:iR) (e:JT) (C:Addr) (b:Fin 10->Bool):Prop where
 z:ExK K C
 s:subIn K (.ref C) (.ref c.st)=some true
 b0:kitOne K (.ref C) (.ref c.tl)=some (b 0)
 b1:kitOne K (.ref C) (.ref c.nf)=some (b 1)
 b2:kitOne K (.ref C) (.ref c.np)=some (b 2)
 b3:kitOne K (.ref C) (.ref c.fu)=some (b 3)
 b4:kitOne K (.ref C) (.ref c.nr)=some (b 4)
 b5:kitOne K (.ref C) (.ref c.nn)=some (b 5)
 b6:kitOne K (.ref C) (.ref e.sh)=some (b 6)
 b7:kitOne K (.ref C) (.ref e.ny)=some (b 7)
 b8:kitOne K (.ref C) (.ref e.ns)=some (b 8)
 b9:kitOne K (.ref C) (.type "ValueError")=some (!(b 9))
noncomputable abbrev Pa (b:Fin 10->Bool):Dat:=.list [.bool (b 0),.bool (b 1),.bool (b 2),.bool (b 3),.bool (b 4),.bool (b 5),.bool (b 6),.bool (b 7),.bool (b 8),.bool (b 9)]
theorem EW(T:TX mg)(EK:EX K mg c){e:JT}(E2:PM mg e)(Cy:DnX P w K mg base 9 "read" ["text"] 1 Rr){Fr:List Dat->Option (List Dat×List Dat×Dat)}(CH:JP P w K mg base 9 "read" ["text"] 1 Fr)(ch:List Dat->Option (Addr×(Fin 10->Bool)))(nD:∀ds q,ch ds=some q->Rr ds q.1=true/\Tells K c e q.1 q.2)(U:FnAt K mg "_law_refused" (top 63) ["text"]):
  Dn P w K mg base 10 "_law_refused" ["text"] 1 (λds=>match ch ds with
   |some q=>some (Pa q.2)
   |none=>(Fr ds).map λ_=>Dat.list []):=by
 obtain⟨f,fd,U,hm,hB⟩:=U.ex;have S:eh ["text","told","e"] ["text"] (aP (top 63)):=⟨rfl,rfl,rfl,by decide +kernel,rfl,by decide +kernel,by decide +kernel⟩;have nd:=S.nd;obtain⟨f1,fd1,h1,h2,h3,h4⟩:=Cy.ex;obtain⟨f2,fd2,g1,g2,g3,g4⟩:=CH.ex;refine⟨f,fd,U.ok S (λvs H Q E h=>?_) (λbJ A outer s H vs Q E hr h=>?_),hm,U.kp,hB⟩
 ·obtain⟨Av,ds,d,_,r,hl,_⟩:=h;rw[r.length,hl];rfl
 ·obtain⟨Av,ds,d,hA,r,hl,hd,q⟩:=h;dsimp only at hd;cases hf:ch ds with
  |none=>
   rw[hf]at hd;obtain⟨o,ho,rfl⟩:=map_eq_some_iff.mp hd;refine⟨_,gr (hZ (i:=1) nd rfl (.inl rfl) (jD fU)) (gr (ps_tryE (E:=λ_ _ _=>False) (i:=2) (te:=ri (Ro K 1 Fr) [] E0 (rh (yb 0) BR)) EK.st rfl nd rfl rfl rfl rfl
    (λf p hp=>mO g1 hr rfl g2 g3 g4 .nil rH (bR (pv 0) fU)) (λcls od H' h=>h.elim)
   (λa oe=>gr (hZ (i:=1) nd rfl (.inl rfl) (jD (bR (pe_isC 2 mem_cons_self T.isinstance EK.tl.mg) (bR (pe_isC 2 mem_cons_self T.isinstance EK.nf.mg) (bR (pe_isC 2 mem_cons_self T.isinstance EK.np.mg) (bR (pe_isC 2 mem_cons_self T.isinstance EK.fu.mg) fU (hs:=bf)) (hs:=bf)) (hs:=bf)) (hs:=bf))))
     (gr (hZ (i:=1) nd rfl (.inl rfl) (rG l8 (pv 1) (jD (bR (pe_isC 2 mem_cons_self T.isinstance EK.nr.mg) (bR (pe_isC 2 mem_cons_self T.isinstance EK.nn.mg) (bR (pe_isC 2 mem_cons_self T.isinstance E2.sh) (bR (pe_isC 2 mem_cons_self T.isinstance E2.ny) fU (hs:=bf)) (hs:=bf)) (hs:=bf)) (hs:=bf)))))
     (jY (hZ (i:=1) nd rfl (.inl rfl) (rG l8 (pv 1) (jD (bR (pe_isC 2 mem_cons_self T.isinstance E2.ns) (bR (DG (pe_isT (T:="ValueError") 2 mem_cons_self T.isinstance E2.ve)) fU (hs:=vo)) (hs:=bf)))))))))
   (jY (oy (pv 1)))),?_⟩
   obtain⟨v0,rfl⟩:∃v0,vs=[v0]:=by
    have:=r.length;rw[hl]at this;match vs,this with
    |[v0],_=>exact⟨v0,rfl⟩
   refine⟨zero_le _,λp1 n1=>?_⟩;have s1:aO H (upd H p1 (.lst [])):=cb n1 _;refine⟨⟨v0,rfl,Av,ds,o,hA.same s1,r.same s1,hl,ho,λH1 a p q' xs ys v sm hp hq ha k1 k2 k3 r1 r2 r3=>?_⟩,λa oe C' H' hc _ hE _=>hE.elim⟩;have s2:=(Gf (o:=o) (hA.same (s1.trans sm)) hp hq ha k1 k2 k3 r1 r2 r3).2;refine⟨.ref p1,rfl,q (.ref p1) _ (s1.trans (sm.trans s2)) ?_⟩;exact aS.same (sm.trans s2) (aS.pw hA n1 .nil)
  |some q0=>
  rw[hf]at hd;obtain⟨C,b⟩:=q0;cases hd;have hR:Rr ds C=true:=(nD _ _ hf).1;have tc:=(nD _ _ hf).2;refine⟨_,gr (hZ (i:=1) nd rfl (.inl rfl) (jD fU)) (gr (ps_tryE (E:=λcls _ H'=>cls=.ref C/\aO H H') (i:=2) (te:=ri (spX K 1 Rr) [] (λcls _ H'=>cls=.ref C/\aO H H') (rh (yb 0) BR)) EK.st rfl nd rfl rfl rfl rfl
   (λf p hp=>mO h1 hr rfl h2 h3 h4 .nil hp (bR (pv 0) fU)) (λcls od H' h=>⟨C,h.1,tc.s⟩)
   (λa oe=>gr (hZ (i:=1) nd rfl (.inl rfl) (jD (bR (pe_isC 2 mem_cons_self T.isinstance EK.tl.mg) (bR (pe_isC 2 mem_cons_self T.isinstance EK.nf.mg) (bR (pe_isC 2 mem_cons_self T.isinstance EK.np.mg) (bR (pe_isC 2 mem_cons_self T.isinstance EK.fu.mg) fU (hs:=bf)) (hs:=bf)) (hs:=bf)) (hs:=bf))))
    (gr (hZ (i:=1) nd rfl (.inl rfl) (rG l8 (pv 1) (jD (bR (pe_isC 2 mem_cons_self T.isinstance EK.nr.mg) (bR (pe_isC 2 mem_cons_self T.isinstance EK.nn.mg) (bR (pe_isC 2 mem_cons_self T.isinstance E2.sh) (bR (pe_isC 2 mem_cons_self T.isinstance E2.ny) fU (hs:=bf)) (hs:=bf)) (hs:=bf)) (hs:=bf)))))
    (jY (hZ (i:=1) nd rfl (.inl rfl) (rG l8 (pv 1) (jD (bR (pe_isC 2 mem_cons_self T.isinstance E2.ns) (bR (DG (pe_isT (T:="ValueError") 2 mem_cons_self T.isinstance E2.ve)) fU (hs:=vo)) (hs:=bf)))))))))
   (jY (oy (pv 1)))),?_⟩
  obtain⟨v0,rfl⟩:∃v0,vs=[v0]:=by
   have:=r.length;rw[hl]at this;match vs,this with
   |[v0],_=>exact⟨v0,rfl⟩
  refine⟨zero_le _,λp1 n1=>?_⟩;have s1:aO H (upd H p1 (.lst [])):=cb n1 _;refine⟨⟨v0,rfl,Av,ds,C,hA.same s1,r.same s1,hl,hR,λH' s'=>⟨rfl,s1.trans s'⟩⟩,λa oe C' H' hc _ hE _=>?_⟩;obtain⟨eC,s2⟩:=hE;cases eC;have k4:4<=sizeLine:=sz (by decide);have k2:2<=sizeLine:=sz (by decide);have k8:4+4<=sizeLine:=sz (by decide);have VV:8+2<=sizeLine:=sz (by decide);refine tIs_c rfl hc tc.z tc.b0 (tIs_c rfl hc tc.z tc.b1 (tIs_c rfl hc tc.z tc.b2 (tIs_c rfl hc tc.z tc.b3 ⟨k4,λp2 n2=>?_⟩)));refine⟨.ref p2,rfl,tIs_c rfl hc tc.z tc.b4 (tIs_c rfl hc tc.z tc.b5 (tIs_c rfl hc tc.z tc.b6 (tIs_c rfl hc tc.z tc.b7 ⟨k4,λp3 n3=>?_⟩)))⟩;have e2:upd H' p2 (.lst [.bl (b 0),.bl (b 1),.bl (b 2),.bl (b 3)]) p2=some (.lst [.bl (b 0),.bl (b 1),.bl (b 2),.bl (b 3)]):=d5;refine⟨p2,p3,_,_,rfl,rfl,fF.of ((bF (aU e2 n3)).trans e2),fF.of d5,k8,λp4 n4=>?_⟩;refine⟨.ref p4,rfl,tIs_c rfl hc tc.z tc.b8 (tIs_t rfl hc tc.z tc.b9 ⟨_,rfl,k2,λp5 n5=>?_⟩)⟩;refine⟨p4,p5,[.bl (b 0),.bl (b 1),.bl (b 2),.bl (b 3),.bl (b 4),.bl (b 5),.bl (b 6),.bl (b 7)],[.bl (b 8),.bl (!(!(b 9)))],rfl,rfl,fF.of ((bF (aU (H:=upd (upd (upd H' p2 _) p3 _) p4 _) d5 n5)).trans d5),fF.of d5,VV,λp6 n6=>?_⟩;refine⟨.ref p6,rfl,q (.ref p6) _ (s2.trans ((cb n2 _).trans ((cb n3 _).trans ((cb n4 _).trans ((cb n5 _).trans (cb n6 _)))))) ?_⟩;exact .pw (hA.same (s2.trans ((cb n2 _).trans ((cb n3 _).trans ((cb n4 _).trans (cb n5 _)))))) n6 (.cons (.bl _) (.cons (.bl _) (.cons (.bl _) (.cons (.bl _) (.cons (.bl _) (.cons (.bl _) (.cons (.bl _) (.cons (.bl _) (.cons (.bl _) (.cons (by show aS _ _ _ (.bl (!(!(b 9)))) (.bool (b 9));rw[Bool.not_not];exact .bl _) .nil))))))))))
theorem yi:∀(a:List Nat) (ws:List (List Nat)),(∀x∈a::ws,43∉x)->Tx.bB 43 (a++ws.flatMap λw=>43::w)=a::ws
 |a,[],h=>by
  rw[List.flatMap_nil,append_nil];exact Tx.fB 43 a (h a mem_cons_self)
 |a,b::ws,h=>by
  rw[flatMap_cons];show Tx.bB 43 (a++43::(b++ws.flatMap λw=>43::w))=_;rw[Tx.gF 43 a _ (h a mem_cons_self),yi b ws λx hx=>h x (mem_cons_of_mem _ hx)]
theorem KW(t:Sg)(ss:List Sg)(h:∀u∈t::ss,fQ u.2):cC (txt ((t::ss).map cm))=(t::ss).map λu=>cM u.2:=by
 have hg:∀v∈ss.map cm,Tx.Gw v:=λv hv=>by
  obtain⟨u,hu,rfl⟩:=mem_map.mp hv;exact tV (h u (mem_cons_of_mem _ hu))
 have h0:=tV (h t mem_cons_self);have e1:tl (txt ((t::ss).map cm))=tl (Tx.term (cm t))++(ss.map cm).flatMap λw=>if w.neg=true then 45::tl w.word else 43::tl w.word:=by
  show tl ((ss.map cm).foldl Tx.eF (Tx.eF ⟨#[]⟩ (cm t)))=_;rw[Tx.qY _ _ (Tx.tQ _ h0) hg,Tx.pI]
 obtain⟨c,r,ec,hc⟩:=oP (h t mem_cons_self);have e2:tl (ik (txt ((t::ss).map cm)))=tl (cM t.2)++(ss.map cm).flatMap λw=>if w.neg=true then 45::tl w.word else 43::tl w.word:=by
  unfold ik;cases ht:t.1 with
  |true=>
   have e3:tl (Tx.term (cm t))=45::tl (cM t.2):=by
    unfold Tx.term;rw[if_pos (show(cm t).neg=true from ht),aR];rfl
   rw[if_pos (by rw[e1,e3];rfl),tN,e1,e3];rfl
  |false=>
   have e3:tl (Tx.term (cm t))=tl (cM t.2):=by
    unfold Tx.term;rw[if_neg (show ¬(cm t).neg=true by rw[show(cm t).neg=t.1 from rfl,ht];exact Bool.false_ne_true)]
   rw[if_neg (by
    rw[e1,e3,ec];intro z;have:some c=some 45:=z;injection this with this;exact hc this),e1,e3]
 have wK:∀u∈t::ss,(tl (cM u.2)).map sw=tl (cM u.2):=λu hu=>vj (lE (h u hu) (by decide) (by decide));refine dO ?_;unfold cC;rw[cU (by decide),om,e2,map_append,wK t mem_cons_self,List.map_flatMap];have e4:((ss.map cm).flatMap λa=>(if a.neg=true then 45::tl a.word else 43::tl a.word).map sw)=(ss.map λu=>tl (cM u.2)).flatMap λw=>43::w:=by
  rw[List.flatMap_map,List.flatMap_map];have:∀l:List Sg,(∀u∈l,(tl (cM u.2)).map sw=tl (cM u.2))->(l.flatMap λa=>(if(cm a).neg=true then 45::tl (cm a).word else 43::tl (cm a).word).map sw)=l.flatMap λa=>43::tl (cM a.2):=by
   intro l;induction l with
   |nil=>exact λ_=>rfl
   |cons a l ih=>
    intro hl;rw[flatMap_cons,flatMap_cons,ih λu hu=>hl u (mem_cons_of_mem _ hu)];have ha:=hl a mem_cons_self;congr 1
    split
    ·show sw 45::(tl (cM a.2)).map sw=_;rw[ha];rfl
    ·show sw 43::(tl (cM a.2)).map sw=_;rw[ha];rfl
  exact this ss λu hu=>wK u (mem_cons_of_mem _ hu)
 rw[e4,yi]
 ·rw[map_cons,map_cons,map_map];rfl
 ·intro x hx;rcases mem_cons.mp hx with rfl|hx
  ·exact lE (h t mem_cons_self) (by decide) (by decide)
  ·obtain⟨u,hu,rfl⟩:=mem_map.mp hx;exact lE (h u (mem_cons_of_mem _ hu)) (by decide) (by decide)
theorem Pj{r:List Nat}(h:A0 (tl x)=some r):fZ x=nS r:=by
 unfold fZ;rw[h]
theorem Fz(h:42∉tl x):fZ x=x:=by
 unfold fZ;rw[qM h]
theorem Nh{t:Sg}(h:fQ t.2)(acc:List Str):fM acc (cM t.2)=qw acc (cN t):=by
 obtain⟨b,t⟩:=t;have h:fQ t:=h;show fM acc (cM t)=_;unfold fM qw;have key:∀n:Str,mv n->(if(gu n&&!acc.contains n)=true then acc++[n]else acc)=if acc.contains n=true then acc else acc++[n]:=λn hn=>by
  rw[IP hn.1 hn.2,Bool.true_and];cases acc.contains n<;>rfl
 cases t with
 |nm n=>
  have hn:mv n:=h;show(if(gu (fZ n)&&!acc.contains (fZ n))=true then acc++[fZ n]else acc)=_;rw[Fz (xF hn.1 (by decide)),key n hn];rfl
 |nu w=>
  show(if(gu (fZ (cg w))&&!acc.contains (fZ (cg w)))=true then _ else acc)=acc;have Ez:42∉tl (cg w):=λz=>by have:=(k6 h 42 z).1;omega
  rw[Fz Ez];obtain⟨c,r,ec,hc⟩:=ug w;rw[uk (c:=c) (by rw[ec];exact mem_cons_self) (decide_eq_false (by omega)),Bool.false_and];exact if_neg Bool.false_ne_true
 |nn w n=>
  have hn:mv n:=h.2;have Ez:42∉tl (cg w):=λz=>by have:=(k6 h.1 42 z).1;omega
  have ea:fZ (cM (.nn w n))=n:=by
   have hS:tl cS=[42]:=by show tl (Str.ofString "*")=_;rw[me]
   have:tl (cM (.nn w n))=tl (cg w)++42::tl n:=by
    show tl (cg w++cS++n)=_;rw[aR,aR,hS,append_assoc];rfl
   exact(Pj (by rw[this];exact qL Ez)).trans (xG n)
  rw[ea,key n hn];rfl
theorem Br:∀(ss:List Sg) (acc:List Str),(∀u∈ss,fQ u.2)->(ss.map λu=>cM u.2).foldl fM acc=eu acc (ss.map cN)
 |[],acc,_=>rfl
 |t::ss,acc,h=>by
  rw[map_cons,List.foldl_cons,Nh (h t mem_cons_self),Br ss _ λu hu=>h u (mem_cons_of_mem _ hu)];rfl
theorem Nm.ok(h:Nm x):PyData.strOk x=true:=by
 unfold PyData.strOk;rw[<- Array.all_toList,all_eq_true];intro c hc;have:=(h.lw c hc).2;exact decide_eq_true (by omega)
structure Ra (Fm:List Dat->Option Dat) (x:Str) (ts:List Tm):Prop where
 l:ts.length<=x.length+1
 pd:∀t∈ts,Pd t.2
 tk:∀t∈ts,qR t
 e:Fm [.str x]=some (.list (ts.map bK))
 n:∀acc,(cC x).foldl fM acc=eu acc ts
 no:∀c,c<42->c∉tl x
theorem zD{Fg:List Dat->Option Dat}(hG:A9 Fg)(hM:FT Fg Fm)(hx:Tok x)(h:fw x=true):∃ts,Ra Fm x ts:=by
 obtain⟨t,ss,h1,h2,h3,h4,h5⟩:=vk hx h;refine⟨(t::ss).map cN,?_,ya h1,?_,?_,?_,?_⟩
 ·have e0:tl (ip x)=Tx.rm (tl x):=Tx.lH _;have e1:(bE 43 (ip x)).map tl=Tx.bB 43 (Tx.rm (tl x)):=by rw[cU (by decide),e0]
  have e2:=yy (tl x);rw[<- e1,length_map,bH]at e2;have e3:(kQ x).length<=(bE 43 (ip x)).length:=by
   unfold kQ;split
   ·rw[length_drop];omega
   ·exact le_refl _
  rw[h5,length_map]at e3;rw[length_map];omega
 ·intro u hu y hy;obtain⟨v,hv,rfl⟩:=mem_map.mp hu;have ho:=h1 v hv;obtain⟨b,v⟩:=v;have hy:w6 v=some y:=hy;have ho:fQ v:=ho;cases v with
  |nm n=>cases hy;exact(show mv y from ho).1.ok
  |nu w=>cases hy
  |nn w n=>cases hy;exact ho.2.1.ok
 ·have:=hM (cm t) (ss.map cm) (λu=>(Fg [.str (Tx.term u)]).getD .none) (λv hv=>by
   rw[<- map_cons (f:=cm)]at hv;obtain⟨u,hu,rfl⟩:=mem_map.mp hv;exact tV (h1 u hu)) (by rw[<- map_cons (f:=cm),length_map];exact h3) (by rw[<- map_cons (f:=cm),<- h2];exact h4) (λv hv=>by
   rw[<- map_cons (f:=cm)]at hv;obtain⟨u,hu,rfl⟩:=mem_map.mp hv;rw[hG u (h1 u hu)];rfl)
  rw[<- map_cons (f:=cm),<- h2,map_map]at this;rw[this];congr 2
  rw[map_map];refine map_congr_left λu hu=>?_;show(Fg [.str (Tx.term (cm u))]).getD .none=_;rw[hG u (h1 u hu)];rfl
 ·intro acc;rw[h2,KW t ss h1];exact Br _ acc h1
 ·intro c hc;rw[h2];refine Tx.oE (by omega) (by omega) _ _ (λz=>by cases z) ?_;intro w hw;obtain⟨v,hv,rfl⟩:=mem_map.mp hw;exact lE (h1 v hv) (by omega) (by omega)
theorem AF(c:Nat):∀a r:List Nat,Tx.bB c (a++c::r)=Tx.bB c a++Tx.bB c r
 |[],r=>by rw[nil_append,iw];rfl
 |d::a,r=>by
  have ih:=AF c a r;by_cases h:d=c
  ·subst h;rw[cons_append,iw,ih,iw];rfl
  ·cases e:Tx.bB c a with
   |nil=>exact absurd e (Tx.iO c a)
   |cons p q=>
    rw[e]at ih;rw[cons_append,jU h (show Tx.bB c (a++c::r)=p::(q++Tx.bB c r)from ih),jU h e];rfl
theorem CY:∀(a:List Nat) (r:List (List Nat)),Tx.bB 32 (Tx.glue (a::r))=(a::r).flatMap (Tx.bB 32)
 |a,[]=>by
  rw[flatMap_cons,List.flatMap_nil,append_nil];rfl
 |a,b::r=>by
  show Tx.bB 32 (a++32::Tx.glue (b::r))=_;rw[AF,CY b r,<- flatMap_cons]
variable {ws:List Str}
theorem uc{t w:Str}(h:tl t=Tx.glue ((w::ws).map tl)):bE 32 t=(w::ws).flatMap (bE 32):=by
 refine dO ?_;rw[cU (by decide),h,map_cons,CY,List.map_flatMap,<- map_cons (f:=tl),List.flatMap_map];congr 1
 funext x
 exact(cU (by decide) x).symm
theorem kz(h:32∉tl x):bE 32 x=[x]:=dO (by rw[cU (by decide),Tx.fB 32 _ h];rfl)
theorem yJ(h:bE 32 x=[y]):y=x:=by
 have:=cU (c:=32) (by decide) x;rw[h]at this;exact d6 (iS this.symm).symm
theorem Dy{b:Str}{q:List Str}(h:bE 32 x=a::b::q):32∈tl x:=by
 by_cases hx:32∈tl x
 ·exact hx
 ·rw[kz hx]at h;cases h
noncomputable abbrev kE:Str:=Str.ofString "="
noncomputable abbrev kL:Str:=Str.ofString "<"
noncomputable abbrev kG:Str:=Str.ofString ">="
noncomputable abbrev kH:Str:=Str.ofString "<="
noncomputable abbrev w1:Str:=Str.ofString "1"
noncomputable abbrev pN (a l k r:Str):Str:=Txt.join cB [a,l,k,r]
noncomputable abbrev r0:Str:=Str.ofString "given 1 = 1"
noncomputable abbrev AN:Str:=Str.ofString "given 1 = 1\n"
noncomputable abbrev wU:Str:=Str.ofString " from 1"
theorem tM(a l k r:Str):tl (pN a l k r)=Tx.glue ([a,l,k,r].map tl):=by
 show tl (Builtin.Str.glued cB [a,l,k,r])=_;rw[PySem.StrLaws.glued_eq_join];show tl (a++cB++(l++cB++(k++cB++r)))=tl a++32::(tl l++32::(tl k++32::tl r));have e:tl cB=[32]:=by decide +kernel
 simp only[aR,e,append_assoc,List.singleton_append]
theorem Qb(l k r:Str):tl (pN sS l k r++wU)=Tx.glue ([sS,l,k,r,sF,w1].map tl):=by
 rw[aR,tM];show(tl sS++32::(tl l++32::(tl k++32::tl r)))++tl wU=tl sS++32::(tl l++32::(tl k++32::(tl r++32::(tl sF++32::tl w1))));have e:tl wU=32::(tl sF++32::tl w1):=by decide +kernel
 rw[e];simp only[append_assoc,cons_append]
theorem Qc:tl r0=Tx.glue ([sG,w1,kE,w1].map tl):=by decide +kernel
inductive cO where|A|B|C|D
noncomputable def cO.l:cO->Str->Str
 | .A,W=>W
 | .B,_=>w1
 | .C,W=>W
 | .D,_=>w1
noncomputable def cO.r:cO->Str->Str
 | .A,_=>w1
 | .B,W=>W
 | .C,_=>w1
 | .D,W=>W
noncomputable def cO.k:cO->Str
 | .A=>kE
 | .B=>kL
 | .C=>kG
 | .D=>kH
noncomputable def cO.so:cO->Bool
 | .A=>false
 | .B=>false
 | .C=>true
 | .D=>true
noncomputable def cO.row (i:cO) (W:Str):Str:=if i.so=true then pN sS (i.l W) i.k (i.r W)++wU else pN sG (i.l W) i.k (i.r W)
noncomputable def cO.tx (i:cO) (W:Str):Str:=if i.so=true then(AN++pN sS (i.l W) i.k (i.r W))++wU else pN sG (i.l W) i.k (i.r W)
noncomputable def cO.CP (i:cO) (W:Str):List Str:=if i.so=true then[sS,i.l W,i.k,i.r W,sF,w1]else[sG,i.l W,i.k,i.r W]
theorem tY(i:cO)(W:Str):tl (i.row W)=Tx.glue ((i.CP W).map tl):=by
 unfold cO.row cO.CP;cases i.so with
 |true=>rw[if_pos rfl,if_pos rfl];exact Qb _ _ _
 |false=>rw[if_neg Bool.false_ne_true,if_neg Bool.false_ne_true];exact tM _ _ _ _
theorem Ih(i:cO)(W:Str):tl (i.tx W)=if i.so=true then tl r0++10::tl (i.row W)else tl (i.row W):=by
 unfold cO.tx cO.row;cases i.so with
 |true=>
  rw[if_pos rfl,if_pos rfl,if_pos rfl,aR,aR,aR,show tl AN=tl r0++[10] by decide +kernel];simp only[append_assoc,List.singleton_append,cons_append,nil_append]
 |false=>rw[if_neg Bool.false_ne_true,if_neg Bool.false_ne_true,if_neg Bool.false_ne_true]
abbrev Dw (W:Str):Prop:=Bt 11 1919 W
theorem Bj:∀(ws:List (List Nat)) (c:Nat),c∈Tx.glue ws->c=32\/∃x∈ws,c∈x
 |[],c,h=>by cases h
 |[a],c,h=>.inr ⟨a,mem_cons_self,h⟩
 |a::b::r,c,h=>by
  have h:c∈a++32::Tx.glue (b::r):=h;rcases mem_append.mp h with h|h
  ·exact .inr ⟨a,mem_cons_self,h⟩
  ·rcases mem_cons.mp h with h|h
   ·exact .inl h
   ·rcases Bj (b::r) c h with h|⟨x,hx,h⟩
    ·exact .inl h
    ·exact .inr ⟨x,mem_cons_of_mem _ hx,h⟩
variable {W:Str}
theorem LL(i:cO)(h:Dw W):∀x∈i.CP W,∀c∈tl x,11<=c/\c<128:=by
 have o1:∀x∈[sS,sG,sF,w1,kE,kL,kG,kH],∀c∈tl x,11<=c/\c<128:=by
  have:[sS,sG,sF,w1,kE,kL,kG,kH].all (λs=>(tl s).all λc=>decide (11<=c/\c<128))=true:=by decide +kernel
  exact λx hx=>iQ (all_eq_true.mp this x hx)
 have o2:∀x,x=W\/x∈[sS,sG,sF,w1,kE,kL,kG,kH]->∀c∈tl x,11<=c/\c<128:=λx hx=>by
  rcases hx with rfl|hx
  ·exact h.a
  ·exact o1 x hx
 intro x hx;refine o2 x ?_;cases i<;>simp only[cO.CP,cO.l,cO.r,cO.k,cO.so,if_true,if_false,false_eq_true,mem_cons,not_mem_nil,or_false]at hx ⊢<;>rcases hx with h|h|h|h|h|h<;>simp[h]
theorem ou(i:cO)(h:Dw W):(∀c∈tl (i.row W),11<=c/\c<128)/\(i.row W).length<=2000:=by
 refine⟨λc hc=>?_,?_⟩
 ·rw[tY]at hc;rcases Bj _ c hc with h1|⟨x,hx,h1⟩
  ·omega
  ·obtain⟨y,hy,rfl⟩:=mem_map.mp hx;exact LL i h y hy c h1
 ·have hl:=h.l;rw[<- bH,tY];have hW:(tl W).length<=1919:=by rw[bH];exact hl
  have e1:(tl sG).length=5:=by decide +kernel
  have e2:(tl sS).length=2:=by decide +kernel
  have e3:(tl sF).length=4:=by decide +kernel
  have e4:(tl w1).length=1:=by decide +kernel
  have e5:(tl kE).length=1:=by decide +kernel
  have e6:(tl kL).length=1:=by decide +kernel
  have e7:(tl kG).length=2:=by decide +kernel
  have e8:(tl kH).length=2:=by decide +kernel
  cases i<;>simp only[cO.CP,cO.l,cO.r,cO.k,cO.so,if_true,if_false,false_eq_true,map_cons,map_nil,Tx.glue,length_append,length_cons,e1,e2,e3,e4,e5,e6,e7,e8]<;>omega
theorem vn:fw w1=true:=by decide +kernel
theorem qy(acc:List Str):(cC w1).foldl fM acc=acc:=by
 have e:cC w1=[w1]:=by decide +kernel
 have e2:gu (fZ w1)=false:=by decide +kernel
 rw[e];show fM acc w1=acc;unfold fM;rw[e2,Bool.false_and];exact if_neg Bool.false_ne_true
theorem xx:Tok w1:=⟨by decide +kernel,λc hc=>(iQ (lo:=0) (s:=w1) (by decide +kernel) c hc).2⟩
noncomputable def wD (l r:Str):Int:=if(fw l&&fw r)=true then(if 3<((cC l++cC r).foldl fM []).length then 3 else -1)else 1
theorem IM(W:Str):wD W w1=ff W:=by
 unfold wD ff;rw[vn,Bool.and_true,foldl_append,qy]
theorem IL(W:Str):wD w1 W=ff W:=by
 unfold wD ff;rw[vn,Bool.true_and,foldl_append,qy]
noncomputable def BC:List Str->Int
 |[_,l,_,r]=>wD l r
 |[s,l,_,r,_,_]=>if s=sS then wD l r else 1
 |_=>1
theorem JC{g:Str}(hg:¬(g=sS))(h:ws.length≠3):BC (g::ws)=1:=by
 unfold BC;split
 ·rename_i e;injection e with _ e;rw[e]at h;exact absurd rfl h
 ·rename_i e;injection e with e1 e;rw[if_neg (by rw[<- e1];exact hg)]
 ·rfl
theorem JB(h:6<ws.length):BC ws=1:=by
 unfold BC;split
 ·simp at h
 ·simp at h
 ·rfl
theorem Gh(hW:Tok W)(h:32∈tl W):fw W=false:=by
 cases e:fw W with
 |false=>rfl
 |true=>
  obtain⟨t,ss,h1,h2,_⟩:=vk hW e;have:32∉tl W:=by
   rw[h2];refine Tx.oE (by decide) (by decide) _ _ (λz=>by cases z) ?_;intro w hw;obtain⟨v,hv,rfl⟩:=mem_map.mp hw;exact lE (h1 v hv) (by decide) (by decide)
  exact absurd h this
theorem R3(h:fw W=false):ff W=1:=by
 unfold ff;rw[h];exact if_neg Bool.false_ne_true
theorem OJ(h:ff W=1):fw W=false:=by
 cases e:fw W with
 |false=>rfl
 |true=>
  unfold ff at h;rw[e,if_pos rfl]at h;split at h<;>cases h
theorem zJ(h:Dw W):Tok W:=h.tok (by decide)
theorem VG:bE 32 sG=[sG]/\bE 32 sS=[sS]/\bE 32 sF=[sF]/\bE 32 w1=[w1]/\bE 32 kE=[kE]/\bE 32 kL=[kL]/\bE 32 kG=[kG]/\bE 32 kH=[kH]:=
 ⟨kz (by decide +kernel),kz (by decide +kernel),kz (by decide +kernel),kz (by decide +kernel),kz (by decide +kernel),kz (by decide +kernel),kz (by decide +kernel),kz (by decide +kernel)⟩
theorem AJ(i:cO)(W:Str):bE 32 (i.row W)=match i with
  | .A=>sG::(bE 32 W++[kE,w1])
  | .B=>sG::w1::kL::bE 32 W
  | .C=>sS::(bE 32 W++[kG,w1,sF,w1])
  | .D=>sS::w1::kH::(bE 32 W++[sF,w1]):=by
 obtain⟨p1,p2,p3,p4,p5,p6,p7,p8⟩:=VG;have h:=tY i W;cases i
 ·rw[uc h];show bE 32 sG++(bE 32 W++(bE 32 kE++(bE 32 w1++[])))=_;rw[p1,p4,p5];rfl
 ·rw[uc h];show bE 32 sG++(bE 32 w1++(bE 32 kL++(bE 32 W++[])))=_;rw[p1,p4,p6,append_nil];rfl
 ·rw[uc h];show bE 32 sS++(bE 32 W++(bE 32 kG++(bE 32 w1++(bE 32 sF++(bE 32 w1++[])))))=_;rw[p2,p3,p4,p7];rfl
 ·rw[uc h];show bE 32 sS++(bE 32 w1++(bE 32 kH++(bE 32 W++(bE 32 sF++(bE 32 w1++[])))))=_;rw[p2,p3,p4,p8];rfl
theorem Ly(i:cO)(h:Dw W):BC (bE 32 (i.row W))=ff W:=by
 rw[AJ];cases e:bE 32 W with
 |nil=>exact absurd e (lJ (by decide))
 |cons a q=>
  cases q with
  |nil=>
   have:=yJ e;subst this;cases i
   ·exact IM a
   ·exact IL a
   ·show(if sS=sS then wD a w1 else 1)=_;rw[if_pos rfl];exact IM a
   ·show(if sS=sS then wD w1 a else 1)=_;rw[if_pos rfl];exact IL a
  |cons b q=>
   rw[R3 (Gh (zJ h) (Dy e))];have hg:¬(sG=sS):=by decide +kernel
   cases i
   ·exact JC hg (by simp)
   ·exact JC hg (by simp)
   ·exact JB (by simp)
   ·exact JB (by simp)
theorem Q5:f6 kG=false/\f6 sF=false/\¬(w1=sF)/\¬(kG=sF):=by decide +kernel
theorem JE{p:Str->Bool}{l:List Str}(hx:x∈l)(h:p x=false):l.all p=false:=by
 cases e:l.all p with
 |false=>rfl
 |true=>rw[all_eq_true.mp e x hx]at h;cases h
variable {ns:List Str}
theorem IW{k l r:Str}(h:fw l=false):rY k l r ns=false:=by unfold rY;rw[h,Bool.false_and,Bool.and_false]
theorem IV{k l r:Str}(h:fw r=false):rY k l r ns=false:=by unfold rY;rw[h,Bool.false_and,Bool.and_false,Bool.and_false]
theorem IU{k l r:Str}(h:ns.all f6=false):rY k l r ns=false:=by unfold rY;rw[h,Bool.and_false,Bool.and_false,Bool.and_false]
theorem uT{a c:Bool}(h:c=false):(a&&(b&&c))=false:=by rw[h,Bool.and_false,Bool.and_false]
theorem Fy{a c:Bool}(h:b=false):(a&&(b&&c))=false:=by rw[h,Bool.false_and,Bool.and_false]
theorem Nj(hX:Pw c Rw)(i:cO)(h:Dw W)(hs:fw W=false):Rw [.str (i.row W)] c.nf=true:=by
 obtain⟨Vf,Ve,Vd,Vc⟩:=Q5;have ht:Tok (i.row W):=⟨le_trans (ou i h).2 (by decide),λc hc=>((ou i h).1 c hc).2⟩;have e0:=AJ i W;cases e:bE 32 W with
 |nil=>exact absurd e (lJ (by decide))
 |cons a q=>
  rw[e]at e0;cases q with
  |nil=>
   have:=yJ e;subst this;cases i
   ·exact hX.gv _ a kE w1 ht e0 (IW hs)
   ·exact hX.gv _ w1 kL a ht e0 (IV hs)
   ·exact hX.so _ a kG w1 sF [w1] ht e0 (uT (IW hs))
   ·exact hX.so _ w1 kH a sF [w1] ht e0 (uT (IV hs))
  |cons b q=>
   cases i
   ·exact hX.gn _ _ ht e0 (by simp)
   ·exact hX.gn _ _ ht e0 (by simp)
   ·match q,e0 with
    |[],e0=>exact hX.so _ a b kG w1 [sF,w1] ht e0 (Fy (decide_eq_false Vd))
    |[d],e0=>exact hX.so _ a b d kG [w1,sF,w1] ht e0 (Fy (decide_eq_false Vc))
    |d::g::q,e0=>exact hX.so _ a b d g (q++[kG,w1,sF,w1]) ht e0 (uT (IU (JE (x:=kG) (by simp) Vf)))
   ·exact hX.so _ w1 kH a b (q++[sF,w1]) ht e0 (uT (IU (JE (x:=sF) (by simp) Ve)))
theorem DY(ts:List Tm)(acc:List Str):eu acc (ts.map gC)=eu acc ts:=by
 unfold eu;rw[List.foldl_map];rfl
theorem Ng(ts us:List Tm)(tu:Bool)(acc:List Str):eu acc (oA ts us tu)=eu acc (ts++us):=by
 have e:eu acc (ts++us.map gC)=eu acc (ts++us):=by
  have h1:eu acc (ts++us.map gC)=eu (eu acc ts) (us.map gC):=foldl_append;have h2:eu acc (ts++us)=eu (eu acc ts) us:=foldl_append;rw[h1,h2,DY]
 unfold oA;split
 ·rw[DY,e]
 ·exact e
theorem E6{ts us:List Tm}{t:Tm}(h:t∈oA ts us tu):∃u∈ts++us,t.1=u.1/\(Pd u.2->Pd t.2):=by
 have key:∀{t:Tm},t∈ts++us.map gC->∃u∈ts++us,t.1=u.1/\(Pd u.2->Pd t.2):=by
  intro t h;rcases mem_append.mp h with h|h
  ·exact⟨t,mem_append_left _ h,rfl,id⟩
  ·obtain⟨u,hu,rfl⟩:=mem_map.mp h;exact⟨u,mem_append_right _ hu,rfl,um⟩
 unfold oA at h;split at h
 ·obtain⟨v,hv,rfl⟩:=mem_map.mp h;obtain⟨u,hu,e,g⟩:=key hv;exact⟨u,hu,e,λz=>um (g z)⟩
 ·exact key h
theorem E7(ts us:List Tm)(tu:Bool):(oA ts us tu).length=ts.length+us.length:=by
 unfold oA;split<;>simp
structure RG (c:iR) (Fg Fm Fl Fi Fr Fc Fo:List Dat->Option Dat) (Fw:List Dat->Option (List Dat)) (Rw Rc:List Dat->Addr->Bool):Prop where
 sg:A9 Fg
 rs:FT Fg Fm
 rl:SO Fm Fl
 rr:SJ Fl Fi Fr
 ch:TU Fc
 nw:SX Fw
 ro:SK Fo
 rx:Pw c Rw
 cx:TQ c Rc
structure GoodR (Fr:List Dat->Option Dat) (so:Bool) (t:Str) (ns:List Str->List Str) (d:Dr):Prop where
 e:Fr [.str t]=some (aI d)
 a:d.1=if so=true then sS else sG
 m:d.2.2.2=if so=true then[1]else[]
 tk:∀u∈d.2.2.1,qR u
 pd:∀u∈d.2.2.1,Pd u.2
 l:d.2.2.1.length<=98
 n:∀acc,eu acc d.2.2.1=ns acc
variable {Fg Fl:List Dat->Option Dat} in
theorem zE(R:RG c Fg Fm Fl Fi Fr Fc Fo Fw Rw Rc){so:Bool}{t l k k' r:Str}(hk:K5 k k' tu)(Ce:32∉tl k)(hl:Tok l)(hr:Tok r)(sl:fw l=true)(sr:fw r=true)(hz:l.length+r.length<=90)(ht:t.length<=4000)(hg:tl t=Tx.glue ((if so=true then[sS,l,k,r,sF,w1]else[sG,l,k,r]).map tl)):∃d,GoodR Fr so t (λacc=>(cC l++cC r).foldl fM acc) d:=by
 obtain⟨ts,T1⟩:=zD R.sg R.rs hl sl;obtain⟨us,T2⟩:=zD R.sg R.rs hr sr;have l1:=T1.l;have l2:=T2.l;have hG:32∉tl sG:=by decide +kernel
 have hS:32∉tl sS:=by decide +kernel
 have hF:32∉tl sF:=by decide +kernel
 have h1:32∉tl w1:=by decide +kernel
 have n1:=T1.no 32 (by decide);have n2:=T2.no 32 (by decide);have tk:∀u∈oA ts us tu,qR u:=λu hu x hx=>by
  obtain⟨v,hv,e,_⟩:=E6 hu;rcases mem_append.mp hv with h|h
  ·exact T1.tk v h x (e▸hx)
  ·exact T2.tk v h x (e▸hx)
 have pd:∀u∈oA ts us tu,Pd u.2:=λu hu=>by
  obtain⟨v,hv,_,g⟩:=E6 hu;rcases mem_append.mp hv with h|h
  ·exact g (T1.pd v h)
  ·exact g (T2.pd v h)
 have nn:∀acc,eu acc (oA ts us tu)=(cC l++cC r).foldl fM acc:=λacc=>by
  rw[Ng,foldl_append,T1.n,T2.n];exact foldl_append
 cases so with
 |false=>
  have hg:tl t=Tx.glue ([sG,l,k,r].map tl):=hg;have eL:=R.rl sG l k k' r tu ts us [] hk (by omega) T1.pd T2.pd T1.e T2.e (by decide) (λn hn=>by cases hn);refine⟨(sG,k',oA ts us tu,[]),?_,rfl,rfl,tk,pd,by rw[E7];omega,nn⟩;refine R.rr.gv t l k r _ hg (λz hz=>?_) ht eL;simp only[mem_cons,not_mem_nil,or_false]at hz;rcases hz with rfl|rfl|rfl|rfl
  ·exact hG
  ·exact n1
  ·exact Ce
  ·exact n2
 |true=>
  have hg:tl t=Tx.glue ([sS,l,k,r,sF,w1].map tl):=hg;have eL:=R.rl sS l k k' r tu ts us [1] hk (by omega) T1.pd T2.pd T1.e T2.e (by decide) (λn hn=>by rw[mem_singleton.mp hn];decide);refine⟨(sS,k',oA ts us tu,[1]),?_,rfl,rfl,tk,pd,by rw[E7];omega,nn⟩;refine R.rr.so t l k r [w1] _ (by decide) (by decide) hg (λz hz=>?_) ht eL;simp only[mem_cons,not_mem_nil,or_false]at hz;rcases hz with rfl|rfl|rfl|rfl|rfl|rfl
  ·exact hS
  ·exact n1
  ·exact Ce
  ·exact n2
  ·exact hF
  ·exact h1
theorem UD(i:cO):∃k' tu,K5 i.k k' tu/\32∉tl i.k:=by
 cases i
 ·exact⟨_,_,.inl ⟨rfl,rfl,rfl⟩,by decide +kernel⟩
 ·exact⟨_,_,.inr (.inr (.inl ⟨rfl,rfl,rfl⟩)),by decide +kernel⟩
 ·exact⟨_,_,.inr (.inr (.inr (.inl ⟨rfl,rfl,rfl⟩))),by decide +kernel⟩
 ·exact⟨_,_,.inr (.inl ⟨rfl,rfl,rfl⟩),by decide +kernel⟩
theorem Qj(h:fw W=true):W.length<=80:=of_decide_eq_true (and_eq_true_iff.mp h).1
variable {Fg Fl:List Dat->Option Dat} in
theorem IY(R:RG c Fg Fm Fl Fi Fr Fc Fo Fw Rw Rc)(i:cO)(h:Dw W)(hs:fw W=true):∃d,GoodR Fr i.so (i.row W) (λacc=>(cC W).foldl fM acc) d:=by
 obtain⟨k',tu,hk,Ce⟩:=UD i;have pP:=Qj hs;have l1:w1.length=1:=by decide +kernel
 have hW:=zJ h;have key:∃d,GoodR Fr i.so (i.row W) (λacc=>(cC (i.l W)++cC (i.r W)).foldl fM acc) d:=by
  refine zE R hk Ce ?_ ?_ ?_ ?_ ?_ (le_trans (ou i h).2 (by decide)) (tY i W)
  ·cases i<;>first|exact hW|exact xx
  ·cases i<;>first|exact hW|exact xx
  ·cases i<;>first|exact hs|exact vn
  ·cases i<;>first|exact hs|exact vn
  ·cases i
   ·show W.length+w1.length<=90;omega
   ·show w1.length+W.length<=90;omega
   ·show W.length+w1.length<=90;omega
   ·show w1.length+W.length<=90;omega
 obtain⟨d,D⟩:=key;refine⟨d,D.e,D.a,D.m,D.tk,D.pd,D.l,λacc=>?_⟩;rw[D.n];cases i
 ·show(cC W++cC w1).foldl fM acc=_;rw[foldl_append,qy]
 ·show(cC w1++cC W).foldl fM acc=_;rw[foldl_append,qy]
 ·show(cC W++cC w1).foldl fM acc=_;rw[foldl_append,qy]
 ·show(cC w1++cC W).foldl fM acc=_;rw[foldl_append,qy]
variable {Fg Fl:List Dat->Option Dat} in
theorem Dj(R:RG c Fg Fm Fl Fi Fr Fc Fo Fw Rw Rc):∃d,GoodR Fr false r0 (λacc=>acc) d:=by
 obtain⟨d,D⟩:=zE (so:=false) (t:=r0) (l:=w1) (k:=kE) (r:=w1) R (.inl ⟨rfl,rfl,rfl⟩) (by decide +kernel) xx xx vn vn (by decide +kernel) (by decide +kernel) Qc;refine⟨d,D.e,D.a,D.m,D.tk,D.pd,D.l,λacc=>?_⟩;rw[D.n,foldl_append,qy,qy]
theorem ur{so:Bool}(h:a=if so=true then sS else sG):kh a:=by
 cases so with
 |true=>exact .inr h
 |false=>exact .inl h
variable {Fg Fl:List Dat->Option Dat} in
theorem AO(R:RG c Fg Fm Fl Fi Fr Fc Fo Fw Rw Rc){d:Dr}(D:GoodR Fr false r0 (λacc=>acc) d):Fr [.str r0]=some (aI d)/\Fc [aI d,.list [],.list []]=some .none/\kh d.1/\Fw [.list [],.list (d.2.2.1.map bK)]=some []:=by
 have hl:=D.l;have hd:d.1=sG:=D.a;refine⟨D.e,?_,.inl hd,?_⟩
 ·have:=R.ch.ln d [] [] ⟨.inl hd,(λe he=>by cases he),zero_le _,?_,?_,?_,?_,?_⟩
  ·exact this
  ·rw[hd];show 0<gB sG;decide +kernel
  ·simp;omega
  ·rw[D.n];decide
  ·rw[show d.2.2.2=[]from D.m];exact⟨nodup_nil,(λn hn=>by cases hn),(λn hn=>by cases hn)⟩
  ·rw[show d.2.2.2=[]from D.m];decide
 ·have:=R.nw [] d.2.2.1 (by simp;omega);rw[D.n]at this;exact this
theorem y8(i:cO)(h:Dw W):(if i.so=true then[tl r0]else[])++[tl (i.row W)]=Tx.bB 10 (tl (i.tx W)):=by
 have uF:10∉tl (i.row W):=λz=>by have:=((ou i h).1 10 z).1;omega
 rw[Ih];cases i.so with
 |true=>rw[if_pos rfl,if_pos rfl,Tx.gF 10 _ _ (by decide +kernel),Tx.fB 10 _ uF];rfl
 |false=>rw[if_neg Bool.false_ne_true,if_neg Bool.false_ne_true,Tx.fB 10 _ uF];rfl
theorem CQ(i:cO)(h:Dw W):(i.tx W).length<=100000:=by
 have:=(ou i h).2;rw[<- bH,Ih];have e:(tl r0).length=11:=by decide +kernel
 rw[<- bH]at this;split
 ·rw[length_append,length_cons,e];omega
 ·omega
variable {Fg Fl:List Dat->Option Dat} in
theorem LR(R:RG c Fg Fm Fl Fi Fr Fc Fo Fw Rw Rc)(hX:FU Fr Fc Fw Rw Rc Rr)(i:cO)(h:Dw W){dd:Dat}(hb:Rw [.str (i.row W)] C=true\/Fr [.str (i.row W)]=some dd/\∀ab:List Dr,ab.length<=1->(∀e∈ab,e.1=sG)->(i.so=false->ab=[])->Rc [dd,.list (ab.map aI),.list []] C=true):Rr [.str (i.tx W)] C=true:=by
 have i7:=y8 i h;have hlen:=CQ i h;cases kR:i.so with
 |false=>
  rw[kR,if_neg Bool.false_ne_true,nil_append]at i7;refine hX C _ [] none (i.row W) dd [] ⟨i7,hlen,by decide,λa p b e=>?_,λq e=>(by cases e),?_⟩
  ·have:=congrArg List.length e;simp at this
  ·rcases hb with hb|⟨h1,h2⟩
   ·exact .inl hb
   ·exact .inr ⟨h1,h2 [] (by decide) (λe he=>by cases he) λ_=>rfl⟩
 |true=>
  rw[kR,if_pos rfl]at i7;obtain⟨d,D⟩:=Dj R;obtain⟨f1,f2,f3,f4⟩:=AO R D;have en:cA [(r0,d)]=[]:=D.n [];refine hX C _ [(r0,d)] none (i.row W) dd [] ⟨i7,hlen,by simp,λa p b e=>?_,λq e=>(by cases e),?_⟩
  ·have ha:a=[]:=by
    cases a with
    |nil=>rfl
    |cons u a=>
     have:=congrArg List.length e;simp at this
   subst ha;rw[nil_append]at e;injection e with e1 e2;subst e1;refine⟨f1,f2,f3,?_⟩;show Fw _=some ((cA [(r0,d)]).map .str);rw[en];exact f4
  ·rcases hb with hb|⟨h1,h2⟩
   ·exact .inl hb
   ·refine .inr ⟨h1,?_⟩;rw[en];exact h2 [d] (by simp) (λe he=>by rw[mem_singleton.mp he];exact D.a) λz=>by rw[kR]at z;cases z
variable {Fg Fl:List Dat->Option Dat} in
theorem Q9(R:RG c Fg Fm Fl Fi Fr Fc Fo Fw Rw Rc)(hX:FU Fr Fc Fw Rw Rc Rr)(i:cO)(h:Dw W)(hs:fw W=false):Rr [.str (i.tx W)] c.nf=true:=LR (dd:=.none) R hX i h (.inl (Nj R.rx i h hs))
theorem IK{so:Bool}{ab:List Dr}(ha:a=if so=true then sS else sG)(h1:∀e∈ab,e.1=sG)(h2:so=false->ab=[]):(ab.filter λe=>decide (e.1=a)).length=0:=by
 cases so with
 |false=>rw[h2 rfl];rfl
 |true=>
  have hn:¬(sG=sS):=by decide +kernel
  rw[length_eq_zero_iff,List.filter_eq_nil_iff];intro e he;rw[h1 e he,ha,if_pos rfl,decide_eq_false hn];exact Bool.false_ne_true
theorem ze(a:Str):0<gB a:=by unfold gB;split<;>decide
variable {Fg Fl:List Dat->Option Dat} in
theorem Qa(R:RG c Fg Fm Fl Fi Fr Fc Fo Fw Rw Rc)(hX:FU Fr Fc Fw Rw Rc Rr)(i:cO)(h:Dw W)(hs:fw W=true)(h3:3<((cC W).foldl fM []).length):Rr [.str (i.tx W)] c.fu=true:=by
 obtain⟨d,D⟩:=IY R i h hs;have hl:=D.l;refine LR (dd:=aI d) R hX i h (.inr ⟨D.e,λab h1 h2 h4=>?_⟩);refine R.cx.fu d ab [] (ur D.a) (λe he=>.inl (h2 e he)) (by omega) (by simp;omega) (.inr ⟨?_,?_⟩)
 ·rw[IK D.a h2 h4];have:=ze d.1;omega
 ·rw[D.n];exact h3
theorem DZ:∀(ts:List Tm) (acc:List Str),(∀x∈acc,PyData.strOk x=true)->(∀t∈ts,qR t)->∀x∈eu acc ts,PyData.strOk x=true
 |[],acc,h,_=>h
 |t::ts,acc,h,ht=>by
  refine DZ ts (qw acc t) ?_ λu hu=>ht u (mem_cons_of_mem _ hu);intro x hx;unfold qw at hx;split at hx
  ·rename_i y e;split at hx
   ·exact h x hx
   ·rcases mem_append.mp hx with hx|hx
    ·exact h x hx
    ·rw[mem_singleton.mp hx];exact ht t mem_cons_self y e
  ·exact h x hx
variable {Fg Fl:List Dat->Option Dat} in
theorem Q8(R:RG c Fg Fm Fl Fi Fr Fc Fo Fw Rw Rc){F:List Dat->Option (List Dat×List Dat×Dat)}(hF:Py Fr Fc Fw Fo F)(i:cO)(h:Dw W)(hs:fw W=true)(h3:((cC W).foldl fM []).length<=3):∃o,F [.str (i.tx W)]=some o:=by
 have i7:=y8 i h;have hlen:=CQ i h;obtain⟨d,D⟩:=IY R i h hs;have hl:=D.l;have DQ:=DZ d.2.2.1 [] (λx hx=>by cases hx) D.tk;have ch:∀ab:List Dr,ab.length<=1->(∀e∈ab,e.1=sG)->(i.so=false->ab=[])->(i.so=true->ab.length=1)->Fc [aI d,.list (ab.map aI),.list []]=some .none:=λab h1 h2 h4 h5=>by
  refine R.ch.ln d ab [] ⟨ur D.a,(λe he=>.inl (h2 e he)),by omega,?_,by simp;omega,?_,?_,?_⟩
  ·rw[IK D.a h2 h4];exact ze _
  ·rw[D.n];exact h3
  ·rw[D.m];cases kR:i.so with
   |true=>
    rw[if_pos rfl,h5 kR];exact⟨by simp,(λn hn=>by rw[mem_singleton.mp hn];decide),(λn hn=>by rw[mem_singleton.mp hn];decide)⟩
   |false=>
    rw[if_neg Bool.false_ne_true];exact⟨nodup_nil,(λn hn=>by cases hn),(λn hn=>by cases hn)⟩
  ·rw[D.m];split<;>decide
 have nw:=R.nw [] d.2.2.1 (by simp;omega);have ko:∀ns:List Str,ns.length<=3->(∀n∈ns,PyData.strOk n=true)->∀e:Dr,(∀u∈e.2.2.1,qR u)->(∀u∈e.2.2.1,Pd u.2)->e.2.2.1.length<=98->e.2.2.2.length<=100->Fo [aI e,.list (ns.map .str)]=some (o5 ns e):=λns h1 h2 e g1 g2 g3 g4=>R.ro ns e ⟨by omega,g4,h2,g1,g2,g3⟩;have m1:d.2.2.2.length<=100:=by rw[D.m];split<;>decide
 cases kR:i.so with
 |false=>
  rw[kR,if_neg Bool.false_ne_true,nil_append]at i7;have en:cA [(i.row W,d)]=eu [] d.2.2.1:=rfl;refine⟨_,hF _ [(i.row W,d)] none ⟨i7,hlen,λz=>(by cases z),by simp,λa p b e=>?_,λp hp=>?_,λq e=>(by cases e)⟩⟩
  ·have ha:a=[]:=by
    cases a with
    |nil=>rfl
    |cons u a=>
     have:=congrArg List.length e;simp at this
   subst ha;rw[nil_append]at e;injection e with e1 e2;subst e1;exact⟨D.e,ch [] (by decide) (λe he=>by cases he) (λ_=>rfl) (λz=>by rw[kR]at z;cases z),ur D.a,nw⟩
  ·rw[mem_singleton.mp hp,en];exact ko _ (by rw[D.n];exact h3) DQ d D.tk D.pd hl m1
 |true=>
  rw[kR,if_pos rfl]at i7;obtain⟨d0,D0⟩:=Dj R;obtain⟨f1,f2,f3,f4⟩:=AO R D0;have Wv:=D0.l;have Ju:cA [(r0,d0)]=[]:=D0.n [];have en:cA [(r0,d0),(i.row W,d)]=eu [] d.2.2.1:=by
   show eu (cA [(r0,d0)]) d.2.2.1=_;rw[Ju]
  refine⟨_,hF _ [(r0,d0),(i.row W,d)] none ⟨i7,hlen,λz=>(by cases z),by simp,λa p b e=>?_,λp hp=>?_,λq e=>(by cases e)⟩⟩
  ·cases a with
   |nil=>
    rw[nil_append]at e;injection e with e1 e2;subst e1;refine⟨f1,f2,f3,?_⟩;show Fw _=some ((cA [(r0,d0)]).map .str);rw[Ju];exact f4
   |cons u a=>
    have ha:a=[]:=by
     cases a with
     |nil=>rfl
     |cons v a=>
      have:=congrArg List.length e;simp at this
    subst ha;injection e with e1 e2;injection e2 with e2 e3;subst e1 e2;refine⟨D.e,?_,ur D.a,?_⟩
    ·show Fc [aI d,.list ([d0].map aI),.list ((cA [(r0,d0)]).map .str)]=_;rw[Ju];exact ch [d0] (by simp) (λe he=>by rw[mem_singleton.mp he];exact D0.a) (λz=>by rw[kR]at z;cases z) (λ_=>rfl)
    ·show Fw [.list ((cA [(r0,d0)]).map .str),_]=some ((cA [(r0,d0),(i.row W,d)]).map .str);rw[Ju,en];exact nw
  ·rw[en];rcases mem_cons.mp hp with rfl|hp
   ·exact ko _ (by rw[D.n];exact h3) DQ d0 D0.tk D0.pd Wv (by rw[D0.m];decide)
   ·rw[mem_singleton.mp hp];exact ko _ (by rw[D.n];exact h3) DQ d D.tk D.pd hl m1
theorem Qu{f g:ay->Option Bool}(h:f ρ=some false):pJ f g ρ=g ρ:=by
 unfold pJ;rw[h];rfl
theorem Na{f:ay->Option Bool}(h:f ρ=some true):gZ f ρ=some false:=by
 unfold gZ;rw[h];rfl
theorem GY(b:Bool):sX (.bool b) (.bool b)=some (.bool false):=by cases b<;>rfl
variable {x:Dat}
theorem xw{g:Dat->Dat->Option Dat}{y:Dat}(h1:fa ρ=some x)(h2:fb ρ=some y)(h:g x y=some (.bool b)):aZ (L3.f2 g fa fb) ρ=some b:=by
 show(L3.f2 g fa fb ρ).bind oK=_;rw[bN h1 h2 h];rfl
noncomputable abbrev bt (z:Int):Fin 10->Bool:=λk=>decide (z=(k.val:Int))
noncomputable def Hv (z:Int):Dat:=if z=1 then Pa (bt 1)else if z=3 then Pa (bt 3)else .list []
theorem R1(W:Str):ff W=1\/ff W=3\/ff W=-1:=by
 unfold ff;split
 ·split
  ·exact .inr (.inl rfl)
  ·exact .inr (.inr rfl)
 ·exact .inl rfl
abbrev SQ (F:List Dat->Option Dat):Prop:=∀(i:cO) (W:Str),Dw W->F [.str (i.tx W)]=some (Hv (ff W))
abbrev Yh (F:List Dat->Option Dat):Prop:=∀c:Int,∃d,(∃ns:List Str,d=.list (ns.map .str)/\ns.length=3/\(∀x∈ns,Nm x)/\ns.Nodup/\∀x∈ns,x∉bw)/\F [.int c,.int 300,.int 3]=some d
theorem Md{vs:List Str}{ss:List Sg}(h:CB vs ss):Bt 11 80 (txt (ss.map cm)):=by
 refine⟨λc hc=>?_,h.z⟩;have lo:∀c,c<42->c∉tl (txt (ss.map cm)):=λc hc=>by
  refine Tx.oE (by omega) (by omega) _ _ (λz=>by cases z) ?_;intro w hw;obtain⟨v,hv,rfl⟩:=mem_map.mp hw;exact lE (h.ok v hv) (by omega) (by omega)
 have hi:∀c,122<c->c∉tl (txt (ss.map cm)):=λc hc=>by
  refine Tx.oE (by omega) (by omega) _ _ (λz=>by cases z) ?_;intro w hw;obtain⟨v,hv,rfl⟩:=mem_map.mp hw;exact LW (h.ok v hv) hc
 constructor
 ·by_cases h1:c<42
  ·exact absurd hc (lo c h1)
  ·omega
 ·by_cases h1:122<c
  ·exact absurd hc (hi c h1)
  ·omega
noncomputable abbrev Ur (z:Int) (m:Nat):List Dat:=(range' 0 m).map λj:Nat=>Dat.bool (decide (z=(j:Int)))
theorem OI{z:Int}(h:z=1\/z=3\/z=-1):∃m:Nat,m<=10/\bu (.list [.int 10,.int 0]) (.int (if z<0 then 1 else 0))=some (.int (m:Int))/\sX (Hv z) (.list (Ur z m))=some (.bool false):=by
 rcases h with rfl|rfl|rfl
 ·exact⟨10,by decide,rfl,rfl⟩
 ·exact⟨10,by decide,rfl,rfl⟩
 ·exact⟨0,by decide,rfl,rfl⟩
theorem OK{z:Int}:L3.intD [.bool (decide (z<0))]=some (.int (if z<0 then 1 else 0)):=by
 by_cases h:z<0
 ·rw[decide_eq_true h,if_pos h];rfl
 ·rw[decide_eq_false h,if_neg h];rfl
noncomputable def CF:List Dat->Option Dat:=open Classical in λds=>if ∃ns:List Int,ds=[.list (ns.map .int)]/\ns.length<=63 then some (.bool true)else none
theorem R0{n:Int}(h0:0<=n)(h:n<4)(W:Str):∃i:cO,bu (.list [.list [.str sG,.str W,.str kE,.str w1],.list [.str sG,.str w1,.str kL,.str W],.list [.str sS,.str W,.str kG,.str w1],.list [.str sS,.str w1,.str kH,.str W]]) (.int n)=some (.list ([if i.so=true then sS else sG,i.l W,i.k,i.r W].map .str)):=by
 have:n=0\/n=1\/n=2\/n=3:=by omega
 rcases this with rfl|rfl|rfl|rfl
 ·exact⟨.A,rfl⟩
 ·exact⟨.B,rfl⟩
 ·exact⟨.C,rfl⟩
 ·exact⟨.D,rfl⟩
theorem rw_len(i:cO)(h:Dw W)(a:Str)(ha:a.length<=5):(([a,i.l W,i.k,i.r W].map (·.length)).sum+4*cB.length<=2000)/\(pN a (i.l W) i.k (i.r W)).length<=2000:=by
 have hl:=h.l;have e4:w1.length=1:=by decide +kernel
 have e5:kE.length=1:=by decide +kernel
 have e6:kL.length=1:=by decide +kernel
 have e7:kG.length=2:=by decide +kernel
 have e8:kH.length=2:=by decide +kernel
 have e9:cB.length=1:=by decide +kernel
 refine⟨?_,?_⟩
 ·cases i<;>simp only[cO.l,cO.r,cO.k,map_cons,map_nil,sum_cons,List.sum_nil,e4,e5,e6,e7,e8,e9]<;>omega
 ·rw[<- bH,tM];have t4:(tl w1).length=1:=by rw[bH];exact e4
  have t5:(tl kE).length=1:=by rw[bH];exact e5
  have t6:(tl kL).length=1:=by rw[bH];exact e6
  have t7:(tl kG).length=2:=by rw[bH];exact e7
  have t8:(tl kH).length=2:=by rw[bH];exact e8
  have tW:(tl W).length<=1919:=by rw[bH];exact hl
  have tA:(tl a).length<=5:=by rw[bH];exact ha
  cases i<;>simp only[cO.l,cO.r,cO.k,map_cons,map_nil,Tx.glue,length_append,length_cons,t4,t5,t6,t7,t8]<;>omega
theorem QB(i:cO)(h:Dw W):∃y,nZ (.str (pN (if i.so=true then sS else sG) (i.l W) i.k (i.r W))) none (some 2)=some (.str y)/\decide (y=sS)=i.so:=by
 have eS:tl sS=[115,111]:=by decide +kernel
 have eG:tl sG=[103,105,118,101,110]:=by decide +kernel
 have hl:=(rw_len i h (if i.so=true then sS else sG) (by split<;>decide +kernel)).2;have zm:=tM (if i.so=true then sS else sG) (i.l W) i.k (i.r W);have h2:2<=(pN (if i.so=true then sS else sG) (i.l W) i.k (i.r W)).length:=by
  rw[<- bH,zm];show 2<=(tl (if i.so=true then sS else sG)++32::_).length;rw[length_append];split
  ·rw[eS];simp
  ·rw[eG];simp;omega
 obtain⟨y,e,ty⟩:=nN (j:=2) h2 (le_trans hl (by decide));refine⟨y,e,?_⟩;rw[zm]at ty;have ty:tl y=(tl (if i.so=true then sS else sG)++32::_).take 2:=ty;cases kR:i.so with
 |true=>
  rw[kR,if_pos rfl,eS]at ty;exact decide_eq_true (d6 (by rw[ty,eS];rfl))
 |false=>
  rw[kR,if_neg Bool.false_ne_true,eG]at ty;refine decide_eq_false λz=>?_;rw[z,eS]at ty;cases ty
theorem EG{y z:Dat}(h1:fa ρ=some x)(h2:fb ρ=some y)(h3:fc ρ=some z)(h:F [x,y,z]=some d):cu 3 F (ax fa (ax fb (ax fc aK))) ρ=some d:=by
 unfold cu ax aK;rw[h1,Option.bind_some,h2,Option.bind_some,h3];exact h
theorem CZ{fl fh:ay->Option (Option Int)}{l u:Option Int}(e:fa ρ=some x)(h1:fl ρ=some l)(h2:fh ρ=some u)(h:nZ x l u=some d):gD fa fl fh ρ=some d:=by
 unfold gD;rw[e,Option.bind_some,h1,Option.bind_some,h2];exact h
theorem LB{g:List Dat->Option Dat}{fs:ay->Option (List Dat)}(h:fs ρ=some ds)(h2:g ds=some d):dJ g fs ρ=some d:=by
 unfold dJ;rw[h];exact h2
theorem N8{g1 g2:aD->Option Fl}{J2:aD->Prop}(h:oO g1 Γ J2)(h2:∀au,J2 au->oO g2 au J):oO (bG g1 g2) Γ J:=by
 obtain⟨au,e,b⟩:=h;exact iX e (h2 au b)
variable {fd:FuncData} {f:Addr}
theorem R5(T:TX mg){Tg Tf Th Te Tj Tn To Ti:List Dat->Option Dat}(dG:Dn P w K mg base 10 "_law_stir" ["cell","k"] 2 Tg)(hs:FR Tg)(Ie:Dn P w K mg base 10 "_law_names" ["head","k","many"] 3 Fn)(hN:Yh Fn)(PN:Dn P w K mg base 10 "_law_sum" ["cell","k","names"] 3 Tf)(WU:T4 Tf)(xp:Dn P w K mg base 10 "_law_spoilt" ["word","cell","k"] 3 Th)(S9:SE Th)(LG:Dn P w K mg base 10 "_law_word" ["cell"] 1 Te)(WS:T3 Te)(fT:Dn P w K mg base 10 "is_name" ["word"] 1 Tj)(WX:JN Tj)(ig:Dn P w K mg base 10 "_law_good_name" ["word"] 1 Tn)(X0:JO Tn)(PQ:Dn P w K mg base 10 "_law_due" ["word"] 1 To)(X1:Tp To)(CI:Dn P w K mg base 10 "_law_refused" ["text"] 1 Ti)(WW:SQ Ti)(U:mw K "law" "law" (top 65) f fd):
  gg P w K mg base j0 11 f fd ["script"] (AG K 1 CF):=by
 have nd:(["script","cell","word","told","some","rows","text","due"]:List Str).Nodup:=by decide +kernel
 refine MJ U (N:=["script","cell","word","told","some","rows","text","due"]) ⟨rfl,rfl,rfl,by decide +kernel,rfl,by decide +kernel,by decide +kernel⟩ rfl (λbJ A outer s H E hr=>
  (ao (l4 PassesOwn.never rfl (iC (ae 0) bj (aV ai)) (bp 1 nd)
  (ao (az 2 nd (aL LG hr (af (ae 1) ah)))
  (ao (az 3 nd (aL fT hr (af (ae 2) ah)))
  (ao (aH (cE (gG (dM (bM (C1 "bool" T.isinstance T.bool (ae 3)))) (fR (sV hr (ae 3) (aL ig hr (af (ae 2) ah)))))) (aw (aN jC)) aE)
  (ao (az 4 nd (iC (aL Ie hr (af (ae 1) (af ai (af ai ah)))) bj (aV (bh (aL dG hr (af (ae 1) (af ai ah))) ai))))
  (ao (az 2 nd (aL xp hr (af (aB (aL PN hr (af (ae 1) (af ai (af (ae 4) ah)))) ai) (af (ae 1) (af ai ah)) (hs:=aJ))))
  (ao (aH (aX hr (bh (aL dG hr (af (ae 1) (af ai ah))) ai) ai) (aw (az 2 nd (aL xp hr (af (ae 2) (af (ae 1) (af ai ah)))))) aE)
  (ao (az 5 nd (cq (af (cq (af ar (af (ae 2) (af ar (af ar ah))))) (af (cq (af ar (af ar (af ar (af (ae 2) ah))))) (af (cq (af ar (af (ae 2) (af ar (af ar ah))))) (af (cq (af ar (af ar (af ar (af (ae 2) ah))))) ah (hs:=jJ)) (hs:=jJ)) (hs:=jJ)) (hs:=jJ))))
  (ao (az 6 nd (pe ar (af (aB (ae 5) (bh (aL dG hr (af (ae 1) (af ai ah))) ai)) ah (hs:=aJ))))
  (ao (aH (aX hr (br (ae 6) bj (aV ai)) ar) (aw (az 6 nd (aM (aM ar (ae 6)) ar))) aE)
  (ao (az 7 nd (aL PQ hr (af (ae 2) ah)))
  (ao (az 3 nd (aL CI hr (af (ae 6) ah)))
  (aw (aH (sV hr (ae 3) (dj (ku rfl (iU (tn:=["k"]) (fv:=["due"]) (js:=[7]) rfl (by decide +kernel) (by decide +kernel) rfl (by decide +kernel) (by decide +kernel) rfl
   (λx hx=>by((have jF:x="due":=(by simpa using hx));(rcases jF with rfl<;>exact⟨_,rfl⟩)))
   (λp hp=>by((have jr:p=(("due" : Str),(7:Nat)):=(by simpa using hp));(rcases jr with rfl<;>exact⟨rfl,.inr (.inl rfl),.inl rfl,λz=>by cases z⟩)))) (lr T.range (af (aB (cq (af ai (af ai ah))) (pf T.int (af (yE (ae 7) ai) ah (hs:=oQ)))) ah (hs:=aJ))) (λ_ _ _ _=>(bp 0 (show(["k","due"]:List Str).Nodup by decide +kernel))) (λ_ _ _ _=>dY) (λ_ _ _ _=>(yG hr (ae 1) (ae 0))) (cY rfl)))) (aw (aN jC)) aE))))))))))))))
  (aw (aN jC)))) ?_
 intro ds d hl Jn;unfold CF at Jn;split at Jn
 ·rename_i h;obtain⟨cells,rfl,X9⟩:=h;cases Jn;refine bQ ?_;show bG _ _ [~~~.list (cells.map .int),none,none,none,none,none,none,none]=_;refine Mr (λΓ=>∃x1 x2 x3 x4 x5 x6 x7:Option Slot,Γ=[~~~.list (cells.map .int),x1,x2,x3,x4,x5,x6,x7]) ?_ ?_
  ·have sl:rW (.list (cells.map .int)) none (some 63)=some (.list ((cells.map Dat.int).take 63)):=L3.nN (ds:=cells.map Dat.int) (m:=63);have Oy:o9 (aj 0) eE (dI (fC (.int 63))) (dD [~~~.list (cells.map .int),none,none,none,none,none,none,none])=some (.list ((cells.take 63).map .int)):=by
    rw[List.map_take];generalize Dat.list ((cells.map Dat.int).take 63)=dp at *;generalize Dat.list (cells.map .int)=dl at *;dsimp![o9,eE,dI,kg,sl]
   rw[oV Oy rfl];clear Oy sl;generalize Dat.list (cells.map .int)=zL;refine tf (enc:=Dat.int) (λ_ Γ=>∃x1 x2 x3 x4 x5 x6 x7:Option Slot,Γ=[~~~(zL),x1,x2,x3,x4,x5,x6,x7]) ?_ (cells.take 63) _ ⟨none,none,none,none,none,none,none,rfl⟩;rintro c _ Γ ⟨x1,x2,x3,x4,x5,x6,x7,rfl⟩;refine⟨[(1,.int c)],rfl,?_⟩;show oO (bG _ _) [~~~(zL),~~~.int c,x2,x3,x4,x5,x6,x7] _;obtain⟨y0,e0,b0⟩:=WS c;have t0:=b0.tok (by decide);have q1:=WX y0 t0.l t0.a;have q2:=X0 y0 t0.l t0.a;refine iX (cD e0) (iX (cD q1) (iX ((je ((Qu (Na rfl)).trans (xw rfl q2 (GY _)))).trans rfl) ?_));clear q1 q2;obtain⟨_,⟨nm,rfl,UO,iP,Bf,J4⟩,eN⟩:=hN c;have t1:=hs c 320 (by decide);have t2:=bg (a:=stir c 320) (b:=4) (by decide);have b2:=bL (stir c 320) (b:=4) (by decide);obtain⟨t,ht⟩:∃t:Nat,(stir c 320).fmod 4=(t:Int):=⟨((stir c 320).fmod 4).toNat,by omega⟩;rw[ht]at t2;have Ip:rW (.list (nm.map .str)) none (some (t:Int))=some (.list ((nm.take t).map .str)):=by
    rw[L3.nN,List.map_take]
   have hv:SY (nm.take t):=⟨by rw[length_take];omega,Bf.sublist (List.take_sublist t nm),λx hx=>⟨iP x (List.mem_of_mem_take hx),J4 x (List.mem_of_mem_take hx)⟩⟩;generalize nm.take t=vs at Ip hv;refine iX (cD (d:=.list (vs.map .str)) (by
    generalize Dat.list (nm.map .str)=dm at eN Ip;generalize Dat.list (vs.map .str)=dv at *;show o9 _ _ _ [some zL,some (.int c),some (.str y0),some (.bool (gu y0)),_,_,_,_]=_;dsimp![o9,eE,dI,kg,eN,t1,t2,Ip])) ?_
   obtain⟨_,⟨ss,Bc,rfl⟩,e1⟩:=WU c 1 vs (by decide) hv;have bs:=Md Bc;obtain⟨y1,e2,b3,b4⟩:=S9 (txt (ss.map cm)) c 50 (by decide) (bs.mono (by decide));refine iX (cD (d:=.str y1) (EG (bN e1 rfl (show bu (Me ss) (.int 0)=some (.str (txt (ss.map cm)))from rfl)) rfl rfl e2)) ?_;have b5:Bt 11 959 y1:=⟨b3.a,b4 bs.l⟩;have u1:=hs c 53 (by decide);have u2:=bg (a:=stir c 53) (b:=2) (by decide);refine N8 (J2:=λΓ=>∃W,Dw W/\Γ=[~~~(zL),~~~.int c,~~~.str W,~~~.bool (gu y0),~~~.list (vs.map .str),x5,x6,x7]) ?_ ?_
   ·by_cases hu:(stir c 53).fmod 2=1
    ·obtain⟨y2,e3,b6,_⟩:=S9 y1 c 54 (by decide) b5;exact za (cR (bN u1 rfl u2) (decide_eq_true hu)) ⟨_,cD (d:=.str y2) (EG rfl rfl rfl e3),y2,b6,rfl⟩
    ·exact vC (cR (bN u1 rfl u2) (decide_eq_false hu)) ⟨y1,b3,rfl⟩
   clear e2 b3 b4 b5 e1 bs Bc u1 u2 hv Ip t1 t2 b2 eN UO iP Bf J4;rintro _ ⟨W,hW,rfl⟩;have tW:=zJ hW;have z4:4<=sizeLine:=sz (by decide);have z2:2<=sizeLine:=sz (by decide);have v1:=hs c 58 (by decide);have v2:=bg (a:=stir c 58) (b:=4) (by decide);have v3:=bL (stir c 58) (b:=4) (by decide);obtain⟨i,ei⟩:=R0 v3.1 v3.2 W;generalize NR:Dat.list [.list [.str sG,.str W,.str kE,.str w1],.list [.str sG,.str w1,.str kL,.str W],.list [.str sS,.str W,.str kG,.str w1],.list [.str sS,.str w1,.str kH,.str W]]=Hw at ei;refine iX (au:=[~~~(zL),~~~.int c,~~~.str W,~~~.bool (gu y0),~~~.list (vs.map .str),~~~(Hw),x6,x7]) (by
    rw[<- NR];generalize Dat.str W=dW at *;generalize Dat.list (vs.map .str)=dv at *;dsimp![z4]) ?_
   have ha:(if i.so=true then sS else sG).length<=5:=by split<;>decide +kernel
   obtain⟨l1,l2⟩:=rw_len i hW _ ha;refine iX (au:=[~~~(zL),~~~.int c,~~~.str W,~~~.bool (gu y0),~~~.list (vs.map .str),~~~(Hw),~~~.str (pN (if i.so=true then sS else sG) (i.l W) i.k (i.r W)),x7]) (cD (vH (uM (bN rfl (bN v1 rfl v2) ei)) (le_trans l1 (by decide)))) ?_;obtain⟨y2,s1,s2⟩:=QB i hW;refine N8 (J2:=λΓ=>Γ=[~~~(zL),~~~.int c,~~~.str W,~~~.bool (gu y0),~~~.list (vs.map .str),~~~(Hw),~~~.str (i.tx W),x7]) ?_ ?_
   ·have Jt:i.tx W=if i.so=true then(AN++pN sS (i.l W) i.k (i.r W))++wU else pN sG (i.l W) i.k (i.r W):=rfl;have sq:=iI y2 sS;rw[s2]at sq;have n0:AN.length=12:=by decide +kernel
    have n1:wU.length=7:=by decide +kernel
    cases kR:i.so with
    |true=>
     rw[kR,if_pos rfl]at Jt l2 s1;rw[kR]at sq;rw[if_pos rfl];refine za (xw (CZ rfl rfl rfl s1) rfl sq) ⟨_,cD (d:=.str (i.tx W)) ?_,rfl⟩;rw[Jt];exact bN (bN rfl rfl (fS (show AN.length+_<=_ by omega))) rfl (fS (show(AN++_).length+wU.length<=_ by rw[jw];omega))
    |false=>
     rw[kR,if_neg Bool.false_ne_true]at Jt s1;rw[kR]at sq;rw[if_neg Bool.false_ne_true];refine vC (xw (CZ rfl rfl rfl s1) rfl sq) ?_;rw[Jt]
   rintro _ rfl;clear l1 l2 s1 s2 ei v1 v2 v3 NR;have g1:=X1 W tW;have g2:=WW i W hW;have hz:=R1 W;generalize ff W=z at *;obtain⟨m,hm,em,en⟩:=OI hz;refine iX (cD g1) (iX (cD g2) (vC (xw rfl ?_ en) ⟨_,_,_,_,_,_,_,rfl⟩));refine lQ (pF (as:=[.int (m:Int)]) (uM (bN (oF rfl z2) (LB (uM (bN rfl rfl (i6 z 0))) OK) em)) (yu (by omega))) ?_ (eV nat _ _ λj hj=>⟨_,rfl,?_⟩)
   ·rw[length_map,length_range'];exact bC (by omega)
   ·exact bN rfl rfl (bV z j)
  ·rintro _ ⟨x1,x2,x3,x4,x5,x6,x7,rfl⟩;rfl
 ·cases Jn
noncomputable def Cq (x:Str):Int:=match (bE 10 x).getLast? with
 |some t=>BC (bE 32 t)
 |none=>0
theorem P0(i:cO)(h:Dw W):Cq (i.tx W)=ff W:=by
 have e:bE 10 (i.tx W)=(if i.so=true then[r0]else[])++[i.row W]:=dO (by
  rw[cU (by decide),<- y8 i h,map_append];cases i.so<;>rfl)
 have e2:(bE 10 (i.tx W)).getLast?=some (i.row W):=by rw[e,List.getLast?_append];rfl
 unfold Cq;rw[e2];exact Ly i h
noncomputable def JD (c:iR):List Dat->Option (Addr×(Fin 10->Bool)):=open Classical in λds=>match ds with
 |[.str x]=>if ∃i W,Dw W/\x=cO.tx i W then(if Cq x=1 then some (c.nf,bt 1)else if Cq x=3 then some (c.fu,bt 3)else none)else none
 |_=>none
theorem F0(c:iR)(i:cO)(h:Dw W):JD c [.str (i.tx W)]=if ff W=1 then some (c.nf,bt 1)else if ff W=3 then some (c.fu,bt 3)else none:=by
 unfold JD;dsimp only;rw[if_pos ⟨i,W,h,rfl⟩,P0 i h]
theorem ER(h:ff W=3):fw W=true/\3<((cC W).foldl fM []).length:=by
 unfold ff at h;split at h
 ·rename_i hs;refine⟨hs,?_⟩;split at h
  ·assumption
  ·cases h
 ·cases h
theorem EO(h1:ff W≠1)(h3:ff W≠3):fw W=true/\((cC W).foldl fM []).length<=3:=by
 unfold ff at h1 h3;by_cases hs:fw W=true
 ·rw[if_pos hs]at h3;refine⟨hs,?_⟩;by_cases h:3<((cC W).foldl fM []).length
  ·rw[if_pos h]at h3;exact absurd rfl h3
  ·omega
 ·rw[if_neg hs]at h1;exact absurd rfl h1
theorem V0(T:TX mg)(EK:EX K mg c){e:JT}(E2:PM mg e)(t1:Tells K c e c.nf (bt 1))(t3:Tells K c e c.fu (bt 3)){Fg Fl:List Dat->Option Dat}(R:RG c Fg Fm Fl Fi Fr Fc Fo Fw Rw Rc)(Cy:DnX P w K mg base 9 "read" ["text"] 1 Rr)(hX:FU Fr Fc Fw Rw Rc Rr){Fd:List Dat->Option (List Dat×List Dat×Dat)}(CH:JP P w K mg base 9 "read" ["text"] 1 Fd)(hD:Py Fr Fc Fw Fo Fd)(U:FnAt K mg "_law_refused" (top 63) ["text"]):
  ∃F,Dn P w K mg base 10 "_law_refused" ["text"] 1 F/\SQ F:=by
 refine⟨_,EW T EK E2 Cy CH (JD c) ?_ U,?_⟩
 ·intro ds q hq;have h0:=hq;unfold JD at hq;split at hq
  ·split at hq
   ·rename_i x hx;obtain⟨i,W,hW,rfl⟩:=hx;rw[F0 c i hW]at h0;by_cases h1:ff W=1
    ·rw[if_pos h1]at h0;cases h0;exact⟨Q9 R hX i hW (OJ h1),t1⟩
    ·rw[if_neg h1]at h0;by_cases h3:ff W=3
     ·rw[if_pos h3]at h0;cases h0;exact⟨Qa R hX i hW (ER h3).1 (ER h3).2,t3⟩
     ·rw[if_neg h3]at h0;cases h0
   ·cases hq
  ·cases hq
 ·intro i W hW;dsimp only;rw[F0 c i hW];unfold Hv;by_cases h1:ff W=1
  ·rw[if_pos h1,if_pos h1]
  ·rw[if_neg h1,if_neg h1];by_cases h3:ff W=3
   ·rw[if_pos h3,if_pos h3]
   ·rw[if_neg h3,if_neg h3];obtain⟨o,ho⟩:=Q8 R hD i hW (EO h1 h3).1 (EO h1 h3).2;rw[ho];rfl
theorem all_mk{lw:PySem.W.OpenLaw}{K:Fg}{h:Heap}{fa:Addr}{od an:Option Addr}{sl:Array (Option Value)}{oc kV dc pm cd ct:Value}(X:K.In h)(G:h.Ns mainGlobals mg)(WH:mg "law"=some (.ref fa))(Aq:FnAt K mg "_law_stir" (top 48) ["cell","k"])(vW:FnAt K mg "_law_divisor" (top 49) ["one","other"])(A8:FnAt K mg "_law_least" (top 50) ["n","d"])(A7:FnAt K mg "_law_names" (top 51) ["head","k","many"])(vV:FnAt K mg "_law_figures" (top 52) ["number","far"])(Cz:FnAt K mg "_law_sum" (top 53) ["cell","k","names"])(tG:FnAt K mg "_law_good_name" (top 56) ["word"])(rV:FnAt K mg "_law_good_whole" (top 57) ["word"])(tE:FnAt K mg "_law_good_term" (top 58) ["term"])(A6:FnAt K mg "_law_terms" (top 59) ["word"])(Ar:FnAt K mg "_law_good" (top 60) ["word"])(CA:FnAt K mg "_law_due" (top 62) ["word"])(xt:FnAt K mg "_law_spoilt" (top 61) ["word","cell","k"])(Ap:FnAt K mg "_law_word" (top 64) ["cell"])(tD:FnAt K mg "common_divisor" (top 12) ["a","b"])(Po:FnAt K mg "make" (top 13) ["n","d"])(Pn:FnAt K mg "plus" (top 14) ["a","b"])(LD:FnAt K mg "minus" (top 15) ["a","b"])(FP:FnAt K mg "is_name" (top 30) ["word"])(uZ:FnAt K mg "is_whole" (top 31) ["word"])(qP:FnAt K mg "read_whole" (top 32) ["word"])(pR:FnAt K mg "read_number" (top 33) ["word"])(sy:FnAt K mg "read_term" (top 34) ["word"])(HW:FnAt K mg "turned" (top 35) ["terms"])(lW:FnAt K mg "read_signed_term" (top 36) ["word"])(uX:FnAt K mg "read_sum" (top 37) ["word"])(sC:FnAt K mg "read_line" (top 38) ["word","left","sign","right","numbers"])(uY:FnAt K mg "read_row" (top 39) ["row"])(A5:FnAt K mg "names_with" (top 40) ["names","terms"])(qQ:FnAt K mg "check_room" (top 41) ["draft","above","names"])(nV:FnAt K mg "check_numbers" (top 42) ["numbers","above"])(BI:FnAt K mg "check" (top 43) ["draft","above","names"])(FO:FnAt K mg "part_of" (top 44) ["name","terms"])(HX:FnAt K mg "row_of" (top 45) ["draft","names"])(FN:FnAt K mg "read" (top 46) ["text"])(vU:FnAt K mg "_law_refused" (top 63) ["text"])(a:nsIn K mainGlobals "law"=some (some (.ref f)))(l:K.lookup f=some ⟨oc,od,.func (fnOf "law" "law" (kf (top 65)) (d4 (top 65)) (aP (top 65)) .none kV dc pm an cd ct),sl⟩)(c:codeIn K cd "law"=true)(k:keepIn K (.ref f)=true)(R:RX lw.prog w K mg)(T:TX mg){c1 c2 c3 c4 c5 c6 c7 c8 c9 Fq:Addr}(ca1:nsIn K mainGlobals "StepError"=some (some (.ref c1)))(ca2:nsIn K mainGlobals "TooLong"=some (some (.ref c2)))(ca3:nsIn K mainGlobals "NoForm"=some (some (.ref c3)))(ca4:nsIn K mainGlobals "NoPlace"=some (some (.ref c4)))(ca5:nsIn K mainGlobals "Full"=some (some (.ref c5)))(ca6:nsIn K mainGlobals "NoRow"=some (some (.ref c6)))(ca7:nsIn K mainGlobals "NoName"=some (some (.ref c7)))(ca8:nsIn K mainGlobals "NoShape"=some (some (.ref c8)))(ca9:nsIn K mainGlobals "NoneYet"=some (some (.ref c9)))(ca10:nsIn K mainGlobals "NotSo"=some (some (.ref Fq)))(cq1:excIn K c1 veM "ValueError.__new__"=true)(cq2:excIn K c2 veM "ValueError.__new__"=true)(cq3:excIn K c3 veM "ValueError.__new__"=true)(cq4:excIn K c4 veM "ValueError.__new__"=true)(cq5:excIn K c5 veM "ValueError.__new__"=true)(cq6:excIn K c6 veM "ValueError.__new__"=true)(cq7:excIn K c7 veM "ValueError.__new__"=true)(cv:mg "ValueError"=none)(t1:Tells K ⟨c1,c2,c3,c4,c5,c6,c7⟩ ⟨c8,c9,Fq⟩ c3 (bt 1))(t3:Tells K ⟨c1,c2,c3,c4,c5,c6,c7⟩ ⟨c8,c9,Fq⟩ c5 (bt 3))
  : ∃fd:FuncData,(∀(s:Shared) (v:Value),BindsTo s fd ⟨[v],[]⟩ [("script",v)])/\∀base:Heap,K.In base->base.Ns mainGlobals mg->gg lw.prog w K mg base j0 100 fa fd ["script"] (xy K):=by
 have e:=WH.symm.trans (mg_of X G a);cases e;have EK:EX K mg ⟨c1,c2,c3,c4,c5,c6,c7⟩:=⟨⟨mg_of X G ca1,cq1⟩,⟨mg_of X G ca2,cq2⟩,⟨mg_of X G ca3,cq3⟩,⟨mg_of X G ca4,cq4⟩,⟨mg_of X G ca5,cq5⟩,⟨mg_of X G ca6,cq6⟩,⟨mg_of X G ca7,cq7⟩⟩;have E2:PM mg ⟨c8,c9,Fq⟩:=⟨mg_of X G ca8,mg_of X G ca9,mg_of X G ca10,cv⟩;refine⟨fnOf "law" "law" (kf (top 65)) (d4 (top 65)) (aP (top 65)) .none kV dc pm an cd ct,λs v=>.of_eq rfl,λbase _ _=>?_⟩;have R8:=zG (st:=top 65) l c k;obtain⟨G6,D6,h6⟩:=UZ (P:=lw.prog) (w:=w) (base:=base) T Aq;obtain⟨G7,D7,h7⟩:=R6 (P:=lw.prog) (w:=w) (base:=base) T vW;obtain⟨G8,D8,h8⟩:=Ls T D7 h7 A8;obtain⟨G9,D9,h9⟩:=Lp T D6 h6 A7;obtain⟨G1,D1,h1⟩:=OX T D8 h8 vV;obtain⟨G2,D2,h2⟩:=OW T (D6.up (by decide)) h6 D1 h1 Cz;obtain⟨G3,D3,h3⟩:=Co (base:=base) T R tG;obtain⟨G4,D4,h4⟩:=Aj (base:=base) T R rV;obtain⟨G5,D5,h5⟩:=Cn T R (D3.up (by decide)) h3 (D4.up (by decide)) h4 tE;obtain⟨G10,TK,uF⟩:=HI (P:=lw.prog) (w:=w) (base:=base) T A6;obtain⟨G32,Yq,Xh⟩:=Lr T (TK.up (by decide)) uF D5 h5 Ar;obtain⟨G33,Yp,Xg⟩:=OY T Yq Xh (TK.up (by decide)) uF (D3.up (by decide)) h3 CA;obtain⟨G34,Yo,Xf⟩:=HA T (D6.up (by decide)) h6 xt;obtain⟨G35,Yn,Xd⟩:=Lq T (D6.up (by decide)) h6 Ap;obtain⟨G11,Yx,Xu⟩:=V1 (P:=lw.prog) (w:=w) (base:=base) T tD;obtain⟨G12,PR,Oj⟩:=Ll T Yx Xu Po;obtain⟨G13,Yw,Xr⟩:=Lj T PR Oj Pn;obtain⟨G14,JS,Oi⟩:=HD T PR Oj LD;obtain⟨G15,G0,Oh⟩:=HJ (base:=base) T R FP;obtain⟨G16,Yv,Xq⟩:=EY (base:=base) T R uZ;obtain⟨G17,JR,Jp⟩:=HB T R Yv Xq qP;obtain⟨G18,TJ,Sl⟩:=EV T R JR Jp PR Oj pR;obtain⟨G19,TH,Xp⟩:=Lf T R (G0.up (by decide)) Oh TJ Sl sy;obtain⟨G20,TB,Sk⟩:=Hz T R JS Oi HW;obtain⟨G21,Tz,Of⟩:=EU T R TH Xp (JS.up (by decide)) Oi lW;obtain⟨G22,Tv,Sj⟩:=OT T R Tz uX;obtain⟨G23,Tu,Xo⟩:=Lm T R Tv (TB.up (by decide)) Sk (JR.up (by decide)) Jp sC;obtain⟨G24,Tt,Xn⟩:=OU T R Tu (G0.up (by decide)) uY;obtain⟨Td,JQ,Si⟩:=Lo (P:=lw.prog) (w:=w) (base:=base) T A5
 have Oe:PC (λds=>(Td ds).map Dat.list):=λns ts hl=>by show(Td _).map Dat.list=_;rw[Si ns ts hl];rfl
 obtain⟨G26,Ts,Sh⟩:=Lu T R JQ.dn Oe qQ;obtain⟨Yk,Yu,Xm⟩:=OZ (P:=lw.prog) (w:=w) (base:=base) T nV;obtain⟨G28,Tq,Xl⟩:=Lx T (Ts.up (by decide)) Sh (Yu.up (by decide)) Xm BI;obtain⟨G29,Yt,Xk⟩:=HG T R Yw Xr FO;obtain⟨G30,Ys,Xj⟩:=Lk T R Yt Xk (JS.up (by decide)) Oi HX;obtain⟨G31,Yr,Xi⟩:=OV T R (Tt.up (by decide)) (Tq.up (by decide)) (JQ.up (by decide)) (Ys.up (by decide)) FN;obtain⟨G36,Ym,Xb⟩:=Cm (base:=base) T R uZ;obtain⟨R17,Sy,RL⟩:=ET T R EK Ym Xb qP;obtain⟨R18,Yd,VU⟩:=Ck T R EK JR Jp Sy RL pR;obtain⟨R19,Yc,VT⟩:=HC T R EK (G0.up (by decide)) Oh TJ Sl Yd VU sy;obtain⟨R21,Yb,VS⟩:=Cj T R TH (JS.up (by decide)) Yc VT lW;obtain⟨R22,Ya,VR⟩:=Lh T R EK Tz Of Yb VS uX;obtain⟨R23,Y9,VQ⟩:=HE T R EK Of Tv Sj Ya VR (TB.up (by decide)) Sk (JR.up (by decide)) Jp (Sy.up (by decide)) RL sC;obtain⟨R24,Y8,VP⟩:=Li T R EK Tu Y9 VQ (G0.up (by decide)) uY;obtain⟨R26,Y7,VO⟩:=HK T R EK JQ.dn Oe qQ;obtain⟨R27,Y6,VN⟩:=Lv (P:=lw.prog) (w:=w) (base:=base) T EK nV;obtain⟨R28,Y5,VM⟩:=HL (Fn:=Yk) T EK Ts Sh Y7 VO (Y6.up (by decide)) VN BI;obtain⟨R31,Y4,VL⟩:=Ln T R (Tt.up (by decide)) (Y8.up (by decide)) (Tq.up (by decide)) (Y5.up (by decide)) (JQ.up (by decide)) FN;obtain⟨G37,Yl,Xa⟩:=V0 T EK E2 t1 t3 ⟨Of,Sj,Xo,Xn,Xl,Si,Xj,VP,VM⟩ Y4 VL Yr Xi vU;have DL:=R5 T (D6.up (by decide)) h6 (D9.up (by decide)) (λc=>h9 c) (D2.up (by decide)) h2 (Yo.up (by decide)) Xf (Yn.up (by decide)) Xd (G0.up (by decide)) Oh (D3.up (by decide)) h3 (Yp.up (by decide)) Xg Yl Xa R8;exact(Nv DL λns hl=>by unfold CF;exact if_pos ⟨ns,rfl,hl⟩).mono (by decide)
end
end T8
namespace PySem.W.Fast
def tw8161154317768457847:=0
def tw2826215706203605712:=0
def tw17578785547170710197:=0
def tw10314193849688019565:=0
def tw14850306217977060305:=0
def tw6170931450469351039:=0
def tw13940283485128393519:=0
def tw9379324913816525858:=0
def tw15603623895094504715:=0
def tw1911695973410645204:=0
def tw3054124234290612600:=0
def tw11702621814200253352:=0
def tw12536408679907532389:=0
def tw3119600584218190861:=0
def tw4085157231340076459:=0
def tw8247050404543155352:=0
def tw13400237521887155141:=0
def tw1547896844963001094:=0
def tw5015146179490217082:=0
def tw2356864883316307514:=0
def tw7398522265020104238:=0
def tw15532550516078716334:=0
def tw6862636592361006430:=0
def tw14377330303257204702:=0
def tw8963110126226100007:=0
def tw3048362123859981486:=0
def tw3939494184590332387:=0
def tw2963959074088622715:=0
def tw16380795357442177699:=0
def tw4505636895928721713:=0
def tw9912127842141898196:=0
def tw10882237200096941468:=0
def tw12737561108909998101:=0
def tw5833031573493352720:=0
def tw6608719925576662660:=0
def tw6729290490553491380:=0
def tw15041694465217081729:=0
def tw13003492350535244200:=0
def tw10881273406007365318:=0
def tw6658946288136244793:=0
def tw13724377233828515120:=0
def tw4332062960884539422:=0
def tw16545271509665361074:=0
def tw13025420006139936293:=0
def tw8077392568317564196:=0
def tw10227696137855021071:=0
def tw5418345971542443696:=0
def tw11311233475113648298:=0
def tw18397116598611183973:=0
def tw8939914102046743289:=0
def tw13336400793442472563:=0
def tw523063781486897820:=0
def tw3442454896727961581:=0
def tw5226990064159445892:=0
def tw4398406287121467571:=0
def tw13461178643112396179:=0
def tw7401912561282812051:=0
def tw4941976314313817689:=0
def tw4483422039565939690:=0
def tw16256999235157810437:=0
end PySem.W.Fast
open PySem PySem.W PyProof.Rows
local macro_rules | `(tactic| simp_all!) => `(tactic| (refine' L3.UX (by assumption) (by assumption) ?a ?l ?c ?k ?b; (case a => k_is); (case l => k_is); (case c => k_is); (case k => k_is); (case b => intro _ _ _ _ _ _ us hl; rcases us with _ | ⟨_, _ | ⟨_, _ | ⟨_, _ | ⟨_, _ | ⟨_, _ | ⟨_, _⟩⟩⟩⟩⟩⟩ <;> first | rfl | cases hl)))
set_option maxRecDepth 100000 in
set_option maxHeartbeats 0 in
theorem PySem.Challenge.cw_stepjudge_k05_sums_refused_holds : PySem.Challenge.rw_stepjudge_k05_sums_refused.Holds := by
 w_on;o_law;k_head;(case hw=>w_witness2)
 k_fill
 refine L3.Q6 (k:=1) (by decide) (l:=PySem.Challenge.rw_stepjudge_k05_sums_refused) rfl rfl (λw h Y=>PySem.W.kIn_of Y) ?F;case F=>
  intro w mg fa h KX G Eo;refine' T8.all_mk KX G Eo ?u1 ?u2 ?u3 ?u4 ?u5 ?u6 ?u7 ?u8 ?u9 ?u10 ?u11 ?u12 ?u13 ?u14 ?u15 ?u16 ?u17 ?u18 ?u19 ?u20 ?u21 ?u22 ?u23 ?u24 ?u25 ?u26 ?u27 ?u28 ?u29 ?u30 ?u31 ?u32 ?u33 ?u34 ?u35 ?u36 ?a ?l ?c ?k ⟨?r1,?r2,?r3,?r4,?r5,?r6,?r7,?r8,?r9,?r10,?r11,?r12,?r13⟩ ⟨mg_none_of KX G ?z1,mg_none_of KX G ?z2,mg_none_of KX G ?z3,mg_none_of KX G ?z4,mg_none_of KX G ?z5,mg_none_of KX G ?z6,mg_none_of KX G ?z7,mg_none_of KX G ?z8,mg_none_of KX G ?z9,mg_none_of KX G ?z10,mg_none_of KX G ?z11,mg_none_of KX G ?z12⟩ ?ca1 ?ca2 ?ca3 ?ca4 ?ca5 ?ca6 ?ca7 ?ca8 ?ca9 ?ca10 ?cq1 ?cq2 ?cq3 ?cq4 ?cq5 ?cq6 ?cq7 (mg_none_of KX G ?cv) ?t1 ?t3
  case u1|u2|u3|u4|u5|u6|u7|u8|u9|u10|u11|u12|u13|u14|u15|u16|u17|u18|u19|u20|u21|u22|u23|u24|u25|u26|u27|u28|u29|u30|u31|u32|u33|u34|u35|u36=>simp_all!
  (case r1=>refine' L3.JA KX G ?e;(case e=>k_is))
  (case r2=>refine' L3.JA KX G ?e;(case e=>k_is))
  (case r3=>refine' L3.M4 KX G ?ta ?tl;(case ta=>k_is);(case tl=>k_is))
  (case r4=>refine' L3.Ij KX G ?ta ?tl;(case ta=>k_is);(case tl=>k_is))
  (case r5=>refine' L3.Ij KX G ?ta ?tl;(case ta=>k_is);(case tl=>k_is))
  (case r6=>refine' L3.Jy KX G ?ta ?tl ?ts ?te ?tn ?tc;(case ta=>k_is);(case tl=>k_is);(case ts=>rfl);(case te=>exact⟨⟨_,rfl⟩,rfl,⟨_,rfl⟩,⟨⟨_,rfl⟩,rfl,⟨_,rfl⟩,⟨⟨_,rfl⟩,rfl,⟨_,rfl⟩,⟨⟨_,rfl⟩,rfl,⟨_,rfl⟩,⟨⟨_,rfl⟩,rfl,⟨_,rfl⟩,trivial⟩⟩⟩⟩⟩);(case tn=>decide +kernel);(case tc=>decide +kernel))
  (case r7=>refine' L3.Jy KX G ?ta ?tl ?ts ?te ?tn ?tc;(case ta=>k_is);(case tl=>k_is);(case ts=>rfl);(case te=>exact⟨⟨_,rfl⟩,rfl,⟨_,rfl⟩,⟨⟨_,rfl⟩,rfl,⟨_,rfl⟩,trivial⟩⟩);(case tn=>decide +kernel);(case tc=>decide +kernel))
  (case r8=>refine' L3.rN KX G ?e;(case e=>k_is))
  (case r9=>refine' L3.rN KX G ?e;(case e=>k_is))
  (case r10=>refine' L3.rN KX G ?e;(case e=>k_is))
  (case r11=>refine' L3.rN KX G ?e;(case e=>k_is))
  (case r12=>refine' L3.rN KX G ?e;(case e=>k_is))
  (case r13=>refine' L3.rN KX G ?e;(case e=>k_is))
  case a|l|c|k=>k_is
  case z1|z2|z3|z4|z5|z6|z7|z8|z9|z10|z11|z12=>k_is
  (case ca1=>k_is)
  (case ca2=>k_is)
  (case ca3=>k_is)
  (case ca4=>k_is)
  (case ca5=>k_is)
  (case ca6=>k_is)
  (case ca7=>k_is)
  (case ca8=>k_is)
  (case ca9=>k_is)
  (case ca10=>k_is)
  (case cq1=>first|k_is|kernel_rfl)
  (case cq2=>first|k_is|kernel_rfl)
  (case cq3=>first|k_is|kernel_rfl)
  (case cq4=>first|k_is|kernel_rfl)
  (case cq5=>first|k_is|kernel_rfl)
  (case cq6=>first|k_is|kernel_rfl)
  (case cq7=>first|k_is|kernel_rfl)
  (case cv=>k_is)
  (case t1=>refine⟨⟨?_,?_,?_,?_,?_,?_,?_,?_⟩,?_,?_,?_,?_,?_,?_,?_,?_,?_,?_,?_⟩<;>first|k_is|kernel_rfl)
  (case t3=>refine⟨⟨?_,?_,?_,?_,?_,?_,?_,?_⟩,?_,?_,?_,?_,?_,?_,?_,?_,?_,?_,?_⟩<;>first|k_is|kernel_rfl)
