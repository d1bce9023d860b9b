import PyProof.Rows.All
import Wide.All
import OpenK.AllK
import Wide.FinOn
import Lean
import PyProof.EqAt
import PyProof.EqKinds
import PyProof.TupleCall
import KE.KDictList
import KE.KMinKey
import PySem.Challenge.RW_stepjudge_k15_papers_of_two
set_option Elab.async false
set_option linter.all false
set_option maxRecDepth 100000
namespace L2
open PySem PySem.Spec PyProof.Rows
abbrev Key := Sum Int Str
def keyIs : Key → Value → Bool
  | .inl k, v => Value.isInt k v
  | .inr x, v => Value.isStrOf x v
def keyH (w : World) : Key → Int
  | .inl k => hashInt k
  | .inr x => hashStr w x
theorem keyIs_shape : ∀ {k : Key} {v : Value}, keyIs k v = true → (∃ i t, k = Sum.inl i ∧ v = Value.int i t) ∨ (∃ x t, k = Sum.inr x ∧ v = Value.str x t)
  | .inl i, v, h => by
    obtain ⟨t, e⟩ := Value.isInt_shape (k := i) (v := v) h
    exact .inl ⟨i, t, rfl, e⟩
  | .inr x, v, h => by
    obtain ⟨t, e⟩ := Value.isStrOf_shape (x := x) (v := v) h
    exact .inr ⟨x, t, rfl, e⟩
theorem key_ll (a b : Int) : decide ((Sum.inl a : Key) = Sum.inl b) = (a == b) := by
  by_cases e : a = b
  · subst e; simp
  · have h : ¬ (Sum.inl a : Key) = Sum.inl b := fun q => e (Sum.inl.inj q)
    rw [decide_eq_false h]
    exact (beq_eq_false_iff_ne.mpr e).symm
theorem key_rr (a b : Str) : decide ((Sum.inr a : Key) = Sum.inr b) = decide (a = b) := by
  by_cases e : a = b
  · subst e; simp
  · have h : ¬ (Sum.inr a : Key) = Sum.inr b := fun q => e (Sum.inr.inj q)
    rw [decide_eq_false h, decide_eq_false e]
theorem key_lr (a : Int) (b : Str) : decide ((Sum.inl a : Key) = Sum.inr b) = false := decide_eq_false (fun q => nomatch q)
theorem key_rl (a : Str) (b : Int) : decide ((Sum.inr a : Key) = Sum.inl b) = false := decide_eq_false (fun q => nomatch q)
def mixKind (prog : Program) (w : World) : PySem.KeyKind prog w Key where
  is := keyIs
  hash := keyH w
  inj := fun v a b ha hb => by
    rcases keyIs_shape ha with ⟨i, t, rfl, rfl⟩ | ⟨x, t, rfl, rfl⟩
    · rcases keyIs_shape hb with ⟨j, u, rfl, e⟩ | ⟨y, u, rfl, e⟩
      · injection e with e1 _; rw [e1]
      · exact nomatch e
    · rcases keyIs_shape hb with ⟨j, u, rfl, e⟩ | ⟨y, u, rfl, e⟩
      · exact nomatch e
      · injection e with e1 _; rw [e1]
  byValue := fun k v h => by
    rcases keyIs_shape h with ⟨i, t, rfl, rfl⟩ | ⟨x, t, rfl, rfl⟩ <;> rfl
  pyHash := fun hv h => by
    rcases keyIs_shape hv with ⟨i, t, rfl, rfl⟩ | ⟨x, t, rfl, rfl⟩
    · exact wpAny_pyHash_int h
    · exact wpAny_pyHash_str h
  eqBool := fun hu hv h => by
    rcases keyIs_shape hu with ⟨i, t, rfl, rfl⟩ | ⟨x, t, rfl, rfl⟩
    · rcases keyIs_shape hv with ⟨j, u, rfl, rfl⟩ | ⟨y, u, rfl, rfl⟩
      · rw [key_ll] at h; exact wpAny_eqBool_int h
      · rw [key_lr] at h; exact SeqAt.EqAt.int_str i t y u _ _ _ _ h
    · rcases keyIs_shape hv with ⟨j, u, rfl, rfl⟩ | ⟨y, u, rfl, rfl⟩
      · rw [key_rl] at h; exact SeqAt.EqAt.str_int x t j u _ _ _ _ h
      · rw [key_rr] at h; exact wpAny_eqBool_str h
  «strs» := fun k x t v h => by
    rcases keyIs_shape h with ⟨i, u, rfl, e⟩ | ⟨y, u, rfl, e⟩
    · exact nomatch e
    · injection e with e1 _
      subst e1
      cases v <;> rfl
end L2
namespace L2
open PySem PySem.Spec PyProof.Rows
inductive V where
  | non | bl (b : Bool) | int (i : Int) | str (x : Str) | byt (b : Array UInt8) | flt (b : UInt64) | ref (a : Addr) | ty (n : String)
  deriving DecidableEq
def RelV : V → Value → Prop
  | .non, u => u = Value.none
  | .bl b, u => u = Value.bool b
  | .int i, u => ∃ t, u = Value.int i t
  | .str x, u => ∃ t, u = Value.str x t
  | .byt b, u => ∃ t, u = Value.bytes b t
  | .flt b, u => ∃ t, u = Value.float b t
  | .ref a, u => u = Value.ref a
  | .ty n, u => u = Value.type n
abbrev Vals : List V → List Value → Prop := Paired RelV
theorem Vals.length {xs : List V} {us : List Value} (r : Vals xs us) : xs.length = us.length := Paired.length r
theorem Vals.get : ∀ {xs : List V} {us : List Value} {i : Nat} {x : V}, Vals xs us → xs[i]? = some x → ∃ u, us[i]? = some u ∧ RelV x u
  | _, _, _, _, .nil, e => by simp at e
  | _, _, 0, _, .cons r _, e => by simp at e; subst e; exact ⟨_, rfl, r⟩
  | _, _, i + 1, x, .cons _ t, e => by
    obtain ⟨u, h1, h2⟩ := Vals.get (i := i) (x := x) t (by simpa using e)
    exact ⟨u, by simpa using h1, h2⟩
theorem Vals.set {x : V} {u : Value} (r : RelV x u) : ∀ {xs : List V} {us : List Value} (i : Nat), Vals xs us → Vals (xs.set i x) (us.set i u)
  | _, _, _, .nil => .nil
  | _, _, 0, .cons _ t => .cons r t
  | _, _, i + 1, .cons q t => .cons q (Vals.set r i t)
theorem Vals.append : ∀ {xs ys : List V} {us ws : List Value}, Vals xs us → Vals ys ws → Vals (xs ++ ys) (us ++ ws)
  | _, _, _, _, .nil, s => s
  | _, _, _, _, .cons r t, s => .cons r (Vals.append t s)
theorem Vals.take : ∀ {xs : List V} {us : List Value} (n : Nat), Vals xs us → Vals (xs.take n) (us.take n)
  | _, _, 0, _ => .nil
  | _, _, _ + 1, .nil => .nil
  | _, _, n + 1, .cons r t => .cons r (Vals.take n t)
theorem Vals.drop : ∀ {xs : List V} {us : List Value} (n : Nat), Vals xs us → Vals (xs.drop n) (us.drop n)
  | _, _, 0, r => r
  | _, _, _ + 1, .nil => .nil
  | _, _, n + 1, .cons _ t => Vals.drop n t
def RelO : Option V → Option Value → Prop
  | some v, some u => RelV v u
  | none, none => True
  | _, _ => False
def KV {κ : Type} : List (κ × V) → List (κ × Value) → Prop := Paired fun (p : κ × V) (q : κ × Value) => p.1 = q.1 ∧ RelV p.2 q.2
def kV : Key → V
  | .inl i => .int i
  | .inr x => .str x
inductive HO where
  /-- a list -/
  | lst (xs : List V)
  /-- a tuple (never changes) -/
  | tup (xs : List V)
  /-- a dict whose keys are ints and texts; one whose keys are tuples of ints and texts (the empty one is both) -/
  | dK (kvs : List (Key × V)) | dT (kvs : List (List Key × V))
  /-- a set of ints: its members, its size -/
  | set (S : Int → Bool) (n : Nat)
  /-- an instance of the class at C, its dict at dx, its attributes -/
  | ins (C dx : Addr) (fs : List (Str × V))
  /-- the dict of the instance at x -/
  | own (x : Addr)
  /-- the dict of an exception -/
  | xd (fs : List (Str × V))
  /-- a bound method, f of x -/
  | met (f x : Addr)
  /-- a range object lo, lo + 1, .. below hi -/
  | rng (lo hi : Int)
  /-- a thing that is known to the object (the script; a dict while a loop walks it): read, never written while it is so -/
  | frz (o : Obj) (u : HO)
  /-- a code object's table -/
  | tbl (ps : Array Value)
  /-- any other thing, by what is true of its one object (a def of one's own: SetO a S n := HO.ext fun h => ..) -/
  | ext (φ : Heap → Prop)
abbrev Hp := Addr → Option HO
def upd (H : Hp) (a : Addr) (o : HO) : Hp := fun b => if b = a then some o else H b
theorem upd_same {H : Hp} {a : Addr} {o : HO} : upd H a o a = some o := by unfold upd; rw [if_pos rfl]
theorem upd_ne {H : Hp} {a b : Addr} {o : HO} (h : b ≠ a) : upd H a o b = H b := by unfold upd; rw [if_neg h]
theorem ne_of_none {H : Hp} {a b : Addr} {o : HO} (h : H a = some o) (h' : H b = none) : a ≠ b := by
  intro e; subst e; rw [h] at h'; cases h'
section
variable (P : Program) (w : World)
def ObjOk (H : Hp) (h : Heap) (a : Addr) : HO → Prop
  | .lst xs => xs.length ≤ sizeLine ∧ ∃ (its : List Value) (n : Nat), Vals xs its ∧ h.get? a = some { cls := .type "list", data := .seq its.toArray n }
  | .tup xs => xs.length ≤ sizeLine ∧ ∃ its : List Value, Vals xs its ∧ IsTup h a its.toArray
  | .dK kvs => kvs.length ≤ sizeLine ∧ (a == sysModules) = false ∧ ∃ vs, KV kvs vs ∧ h.DictOf (mixKind P w) a vs
  | .dT kvs => kvs.length ≤ sizeLine ∧ (a == sysModules) = false ∧ ∃ xs : List (List Key × Addr × Value),
      Paired (fun (p : List Key × V) (q : List Key × Addr × Value) => p.1 = q.1 ∧ H q.2.1 = some (.tup (p.1.map kV)) ∧ RelV p.2 q.2.2) kvs xs ∧
      ∃ o es ep, h.get? a = some o ∧ o.ExactDict ∧ o.data = .dict es ep ∧ es.toList = xs.map (entryOfKey (tupleKind (mixKind P w))) ∧ (xs.map (·.1)).Nodup
  | .set S n => h.SetOf (intKind P w) a S n
  | .ins C dx fs => H dx = some (.own a) ∧ fs.length ≤ 1000 ∧ dx ≠ a ∧ h.get? a = some (PySem.W.instObj C dx) ∧
      ∃ mA, h.Ns1 dx mA ∧ (∀ f, RelO (fs.lookup f) (mA f)) ∧ PySem.Within mA (fs.map (·.1))
  | .own _ => ∃ o, h.get? a = some o
  | .xd fs => ∃ mA, h.Ns1 a mA ∧ ∀ f, RelO (fs.lookup f) (mA f)
  | .rng lo hi => ∃ t u v, h.get? a = some { cls := .type "range", data := .fields #[.int lo t, .int hi u, .int 1 v] }
  | .frz o u => h.get? a = some o ∧ ObjOk H h a u
  | .tbl ps => h.get? a = some { cls := .none, data := .fields ps }
  | .met f x => h.get? a = some (PySem.W.methodObj (.ref f) (.ref x))
  | .ext φ => φ h ∧ (∃ o, h.get? a = some o) ∧ ∀ h1 h2 : Heap, φ h1 → (∀ o, h1.get? a = some o → h2.get? a = some o) → φ h2
def HOk (H : Hp) (h : Heap) : Prop := ∀ a o, H a = some o → ObjOk P w H h a o
end
section
variable {P : Program} {w : World} {H H' : Hp} {h h' : Heap} {a : Addr} {o : HO}
theorem ObjOk.lt (x : ObjOk P w H h a o) : a < h.objs.size := by
  cases o with
  | lst xs => obtain ⟨_, _, _, _, e⟩ := x; exact Heap.lt_size e
  | tup xs => obtain ⟨_, _, _, p⟩ := x; exact p.lt
  | dK kvs => obtain ⟨_, _, _, _, o, _, _, e, _⟩ := x; exact Heap.lt_size e
  | dT kvs => obtain ⟨_, _, _, _, o, _, _, e, _⟩ := x; exact Heap.lt_size e
  | set S n => obtain ⟨o, _, _, _, e, _⟩ := x; exact Heap.lt_size e
  | ins C dx fs => obtain ⟨_, _, _, e, _⟩ := x; exact Heap.lt_size e
  | own y => obtain ⟨_, e⟩ := x; exact Heap.lt_size e
  | xd fs => obtain ⟨_, ⟨_, _, _, e, _⟩, _⟩ := x; exact Heap.lt_size e
  | rng lo hi => obtain ⟨_, _, _, e⟩ := x; exact Heap.lt_size e
  | frz ob u => obtain ⟨e, _⟩ := x; exact Heap.lt_size e
  | tbl ps => exact Heap.lt_size (show h.get? a = some _ from x)
  | met f y => exact Heap.lt_size (show h.get? a = some _ from x)
  | ext φ => obtain ⟨_, ⟨_, e⟩, _⟩ := x; exact Heap.lt_size e
theorem Paired.mapP {α β : Type} {F G : α → β → Prop} : ∀ {l₁ : List α} {l₂ : List β}, Paired F l₁ l₂ → (∀ a b, F a b → G a b) → Paired G l₁ l₂
  | _, _, .nil, _ => .nil
  | _, _, .cons r t, f => .cons (f _ _ r) (Paired.mapP t f)
theorem ObjOk.stay (x : ObjOk P w H h a o) (k : ∀ b u, (b = a ∨ H b = some (.own a)) → h.get? b = some u → h'.get? b = some u)
    (ho : ∀ b, H b = some (.own a) → H' b = some (.own a)) (ht : ∀ b xs, H b = some (.tup xs) → H' b = some (.tup xs)) : ObjOk P w H' h' a o := by
  induction o with
  | lst xs => obtain ⟨z, its, n, r, e⟩ := x; exact ⟨z, its, n, r, k _ _ (.inl rfl) e⟩
  | tup xs => obtain ⟨z, its, r, ob, e, c⟩ := x; exact ⟨z, its, r, ob, k _ _ (.inl rfl) e, c⟩
  | dK kvs => obtain ⟨z, y, vs, r, ob, es, ep, e, c⟩ := x; exact ⟨z, y, vs, r, ob, es, ep, k _ _ (.inl rfl) e, c⟩
  | dT kvs =>
    obtain ⟨z, y, xs, r, ob, es, ep, e, c⟩ := x
    exact ⟨z, y, xs, Paired.mapP r fun p q z => ⟨z.1, ht _ _ z.2.1, z.2.2⟩, ob, es, ep, k _ _ (.inl rfl) e, c⟩
  | set S n => obtain ⟨ob, es, ep, t, e, c⟩ := x; exact ⟨ob, es, ep, t, k _ _ (.inl rfl) e, c⟩
  | ins C dx fs =>
    obtain ⟨d, z, ne, e, mA, ⟨od, es, ep, e2, c⟩, r⟩ := x
    exact ⟨ho _ d, z, ne, k _ _ (.inl rfl) e, mA, ⟨od, es, ep, k _ _ (.inr d) e2, c⟩, r⟩
  | own y => obtain ⟨ob, e⟩ := x; exact ⟨ob, k _ _ (.inl rfl) e⟩
  | xd fs => obtain ⟨mA, ⟨od, es, ep, e, c⟩, r⟩ := x; exact ⟨mA, ⟨od, es, ep, k _ _ (.inl rfl) e, c⟩, r⟩
  | rng lo hi => obtain ⟨t, u, v, e⟩ := x; exact ⟨t, u, v, k _ _ (.inl rfl) e⟩
  | frz ob u ih => obtain ⟨e, q⟩ := x; exact ⟨k _ _ (.inl rfl) e, ih q⟩
  | tbl ps =>
    have e : h.get? a = some { cls := .none, data := .fields ps } := x
    show h'.get? a = some { cls := .none, data := .fields ps }
    exact k a _ (.inl rfl) e
  | met f y =>
    have e : h.get? a = some (PySem.W.methodObj (.ref f) (.ref y)) := x
    show h'.get? a = some (PySem.W.methodObj (.ref f) (.ref y))
    exact k a _ (.inl rfl) e
  | ext φ => obtain ⟨p, ⟨o, e⟩, st⟩ := x; exact ⟨st _ _ p fun o q => k _ _ (.inl rfl) q, ⟨o, k _ _ (.inl rfl) e⟩, st⟩
theorem HOk.lt (x : HOk P w H h) (e : H a = some o) : a < h.objs.size := (x a o e).lt
theorem HOk.fresh (x : HOk P w H h) (e : h.objs.size ≤ a) : H a = none := by
  cases q : H a with
  | none => rfl
  | some u => exact absurd (Nat.lt_of_lt_of_le (x.lt q) e) (Nat.lt_irrefl _)
theorem HOk.kept (x : HOk P w H h) (k : ∀ b u, h.get? b = some u → h'.get? b = some u) : HOk P w H h' := fun a o e =>
  (x a o e).stay (fun b u _ q => k b u q) (fun _ q => q) fun _ _ q => q
theorem HOk.laid (x : HOk P w H h) (k : ∀ b u, h.get? b = some u → h'.get? b = some u) (hp : h.objs.size ≤ a) (new : ObjOk P w (upd H a o) h' a o) : HOk P w (upd H a o) h' := fun b u e => by
  have hn := x.fresh hp
  by_cases hb : b = a
  · subst hb; rw [upd_same] at e; cases e; exact new
  · rw [upd_ne hb] at e
    exact (x b u e).stay (fun c v _ q => k c v q) (fun c q => by rw [upd_ne (ne_of_none q hn)]; exact q) fun c xs q => by rw [upd_ne (ne_of_none q hn)]; exact q
end
def Rd (H : Hp) (a : Addr) (u : HO) : Prop := H a = some u ∨ ∃ o, H a = some (.frz o u)
theorem Rd.ok {P : Program} {w : World} {H : Hp} {h : Heap} {a : Addr} {u : HO} (r : Rd H a u) (x : HOk P w H h) : ObjOk P w H h a u := by
  rcases r with r | ⟨o, r⟩
  · exact x a u r
  · obtain ⟨_, q⟩ := x a _ r
    exact q
def Mut : Option HO → Prop
  | some (.lst _) => True
  | some (.dK _) => True
  | some (.dT _) => True
  | some (.set _ _) => True
  | some (.ins _ _ _) => True
  | some (.ext _) => True
  | _ => False
section
variable {P : Program} {w : World} {H : Hp} {h h' : Heap} {x e : Addr} {o' : HO}
theorem HOk.write (ok : HOk P w H h) (mu : Mut (H x)) (he : e = x ∨ H e = some (.own x)) (k : ∀ b u, b ≠ e → h.get? b = some u → h'.get? b = some u) (heo : ∃ u, h'.get? e = some u)
    (new : ObjOk P w (upd H x o') h' x o') : HOk P w (upd H x o') h' := fun b u q => by
  have nown : ∀ c y, H c = some (.own y) → c ≠ x := fun c y r z => by subst z; rw [r] at mu; exact mu
  have ntup : ∀ c xs, H c = some (.tup xs) → c ≠ x := fun c xs r z => by subst z; rw [r] at mu; exact mu
  by_cases hb : b = x
  · subst hb; rw [upd_same] at q; cases q; exact new
  · rw [upd_ne hb] at q
    by_cases hbe : b = e
    · have q' : H b = some (.own x) := by
        rcases he with z | z
        · exact absurd (hbe.trans z) hb
        · rw [hbe]; exact z
      rw [q] at q'; cases q'
      obtain ⟨v, hv⟩ := heo
      exact ⟨v, by rw [hbe]; exact hv⟩
    · refine (ok b u q).stay (fun c v hc r => k c v ?_ r) (fun c r => by rw [upd_ne (nown c b r)]; exact r) fun c xs r => by rw [upd_ne (ntup c xs r)]; exact r
      rcases hc with rfl | hc
      · exact hbe
      · rintro rfl
        rcases he with z | z
        · exact nown c b hc z
        · rw [hc] at z; cases z; exact hb rfl
end
structure Un (fs ex : List Addr) (H H' : Hp) (h h' : Heap) : Prop where
  keep : ∀ b o, h.get? b = some o → H b = none → b ∉ fs → b ∉ ex → h'.get? b = some o
  slot : ∀ b o, h.get? b = some o → H b = none → b ∈ fs → b ∉ ex → ∃ sl, h'.get? b = some { o with slots := sl }
  free : ∀ b o, h.get? b = some o → H b = none → b ∉ ex → H' b = none
  there : ∀ b o, h.get? b = some o → b ∉ ex → ∃ o', h'.get? b = some o'
  tups : ∀ b xs, H b = some (.tup xs) → H' b = some (.tup xs)
  frzs : ∀ b o u, H b = some (.frz o u) → H' b = some (.frz o u)
  tbls : ∀ b ps, H b = some (.tbl ps) → ∃ more, H' b = some (.tbl (ps ++ more))
section
variable {fs fs' ex ex' : List Addr} {H H1 H2 : Hp} {h h1 h2 h' : Heap} {a x e : Addr} {o : HO}
theorem Un.any (u : Un fs ex H H1 h h1) {b : Addr} {ob : Obj} (q : h.get? b = some ob) (n : H b = none) (hx : b ∉ ex) : ∃ sl, h1.get? b = some { ob with slots := sl } := by
  by_cases hb : b ∈ fs
  · exact u.slot b ob q n hb hx
  · exact ⟨ob.slots, u.keep b ob q n hb hx⟩
theorem Un.kept (k : ∀ b u, h.get? b = some u → h'.get? b = some u) : Un fs ex H H h h' :=
  ⟨fun b ob q _ _ _ => k b ob q, fun b ob q _ _ _ => ⟨ob.slots, k b ob q⟩, fun _ _ _ n _ => n, fun b ob q _ => ⟨ob, k b ob q⟩, fun _ _ q => q, fun _ _ _ q => q, fun _ ps q => ⟨#[], by rw [q]; simp⟩⟩
theorem Un.refl : Un fs ex H H h h := Un.kept fun _ _ q => q
theorem Un.laid (k : ∀ b u, h.get? b = some u → h'.get? b = some u) (hp : h.objs.size ≤ a) (hn : H a = none) : Un fs ex H (upd H a o) h h' where
  keep := fun b u q _ _ _ => k b u q
  slot := fun b u q _ _ _ => ⟨u.slots, k b u q⟩
  free := fun b u q n _ => by rw [upd_ne (Nat.ne_of_lt (Nat.lt_of_lt_of_le (Heap.lt_size q) hp))]; exact n
  there := fun b u q _ => ⟨u, k b u q⟩
  tups := fun b xs q => by rw [upd_ne (ne_of_none q hn)]; exact q
  frzs := fun b u xs q => by rw [upd_ne (ne_of_none q hn)]; exact q
  tbls := fun b ps q => ⟨#[], by rw [upd_ne (ne_of_none q hn), q]; simp⟩
theorem Un.write (mu : Mut (H x)) (he : e = x ∨ H e = some (.own x)) (k : ∀ b u, b ≠ e → h.get? b = some u → h'.get? b = some u) (heo : ∃ u, h'.get? e = some u) : Un fs ex H (upd H x o) h h' := by
  have hx : ∀ b, H b = none → b ≠ x := fun b n z => by subst z; rw [n] at mu; exact mu
  have hb : ∀ b, H b = none → b ≠ e := fun b n z => by
    subst z
    rcases he with r | r
    · exact hx b n r
    · rw [n] at r; cases r
  have hm : ∀ b u, H b = some u → ¬ Mut (some u) → b ≠ x := fun b u q nm z => by subst z; rw [q] at mu; exact nm mu
  refine ⟨fun b u q n _ _ => k b u (hb b n) q, fun b u q n _ _ => ⟨u.slots, k b u (hb b n) q⟩, fun b u q n _ => by rw [upd_ne (hx b n)]; exact n, fun b u q _ => ?_,
    fun b xs q => by rw [upd_ne (hm b _ q fun z => z)]; exact q, fun b u xs q => by rw [upd_ne (hm b _ q fun z => z)]; exact q, fun b ps q => ⟨#[], by rw [upd_ne (hm b _ q fun z => z), q]; simp⟩⟩
  by_cases hbe : b = e
  · subst hbe; exact heo
  · exact ⟨u, k b u hbe q⟩
end
def trk (h : Heap) (H : Hp) : List Addr := (List.range h.objs.size).filter fun a => (H a).isSome
def hidT (h : Heap) (H : Hp) : Heap := PySem.W.hideAll h (trk h H)
theorem hidT_size (h : Heap) (H : Hp) : (hidT h H).objs.size = h.objs.size := PySem.W.hideAll_size _ _
theorem hidT_get {h : Heap} {H : Hp} {b : Addr} {o : Obj} (e : h.get? b = some o) (n : H b = none) : (hidT h H).get? b = some o :=
  PySem.W.hideAll_get _ e fun hm => by
    have q : (H b).isSome = true := (List.mem_filter.mp hm).2
    rw [n] at q; simp at q
theorem of_hidT {h : Heap} {H : Hp} {b : Addr} {o : Obj} (e : (hidT h H).get? b = some o) : h.get? b = some o ∧ H b = none := by
  have e' : h.get? b = some o := PySem.W.of_hideAll (trk h H) e
  refine ⟨e', ?_⟩
  cases q : H b with
  | none => rfl
  | some x =>
    have hm : b ∈ trk h H := List.mem_filter.mpr ⟨List.mem_range.mpr (Heap.lt_size e'), by simp [q]⟩
    have z : (hidT h H).get? b = none := PySem.W.hideAll_none (trk h H) hm
    rw [z] at e; cases e
def allNews (g h : Heap) (L : Addr) : List (Addr × Obj) := (List.range h.objs.size).filterMap fun a => if a = L ∨ (g.get? a).isSome = true then none else (h.get? a).map fun o => (a, o)
def rest (g h : Heap) (L d : Addr) : List (Addr × Obj) := (allNews g h L).filter fun p => decide (p.1 ≠ d)
end L2
namespace L2
open PySem PySem.Spec PyProof.Rows
structure Mod (K : PySem.W.Frag) (mg : Str → Option Value) (base : Heap) : Prop where
  kin : K.In base
  glob : base.Ns mainGlobals mg
  blt : ∃ mb, base.Ns builtinsNs mb ∧ ∀ x : Str, x ≠ "__name__" → mb x = bootBuiltins x
  nolimit : base.NoLimit
structure Cx where
  prog : Program
  w : World
  K : PySem.W.Frag
  mg : Str → Option Value
  base : Heap
  A : Around
  N : List Str
  s₀ : Shared
  H₀ : Hp
  env : Env
  outer : List Env
  stack : List Env
  ex : List Addr
  fn : Str → Bool
  calm : Bool
  pn : List (Addr × Obj)
  xe : Value → Shared → Prop
def frs (l : List Env) : List Addr := l.filterMap (·.frame)
abbrev Cx.fs (X : Cx) : List Addr := frs X.outer
def Vis (sc : Scope) (x : Str) : Prop := sc.names.lookup x = some .local ∨ sc.names.lookup x = some .cell ∨ sc.names.lookup x = some .free
def Loc (sc : Scope) (x : Str) : Prop := sc.names.lookup x = some .local ∨ sc.names.lookup x = some .cell
def Look (env : Env) (h : Heap) (m : Str → Option Value) (x : Str) (u : Value) : Prop :=
  (env.kindOf x = some .local ∧ m x = some u) ∨ ((env.kindOf x = some .cell ∨ env.kindOf x = some .free) ∧ ∃ c, env.cells.lookup x = some c ∧ h.IsCell c (some u))
structure Cx.Ok (X : Cx) : Prop where
  mod : Mod X.K X.mg X.base
  kind : X.env.scope.kind = .function
  glob : X.env.globals = mainGlobals
  blt : X.env.builtins = builtinsNs
  above : X.s₀.heap.objs.size ≤ X.env.locals
  inj : ∀ x y c, X.env.cells.lookup x = some c → X.env.cells.lookup y = some c → x = y
  has : ∀ x, (X.env.kindOf x = some .cell ∨ X.env.kindOf x = some .free) → ∃ c, X.env.cells.lookup x = some c
  cab : ∀ x c, X.fn x = true → X.env.cells.lookup x = some c → X.s₀.heap.objs.size ≤ c
  hd : X.calm = true → X.A.handled = none
  frames : X.A.frames = some X.stack
  stk : X.stack = X.outer ∨ (X.stack = X.env :: X.outer ∧ X.env.frame = some X.env.locals)
  exf : ∀ b ∈ X.ex, b ≠ X.env.locals ∧ ∀ x c, X.env.cells.lookup x = some c → c ≠ b
  bs : ∀ b o, X.base.get? b = some o → X.s₀.heap.get? b = some o ∧ X.H₀ b = none
  bsz : X.base.objs.size ≤ X.s₀.heap.objs.size
  noex : ∀ b o, X.base.get? b = some o → b ∉ X.ex
  exfs : ∀ b ∈ X.ex, b ∉ X.fs
  funs : X.s₀.heap.FunFrames X.base X.outer
  frf : ∀ b ∈ X.fs, X.H₀ b = none
structure Inv (X : Cx) (pins : List (Addr × Obj)) (σ : List (Option V)) (H : Hp) (s : Shared) : Prop where
  ok : X.Ok
  os : s.os = X.s₀.os
  bare : AllBare s.gens
  base : Un X.fs X.ex X.H₀ H X.s₀.heap s.heap
  loc : ∃ m, s.heap.Ns X.env.locals m ∧ ∀ (i : Nat) (x : Str) (v : V), X.N[i]? = some x → σ[i]? = some (some v) → Vis X.env.scope x → ∃ u, RelV v u ∧ Look X.env s.heap m x u
  cell : ∀ x c, X.env.cells.lookup x = some c → ∃ v, s.heap.IsCell c v
  free : H X.env.locals = none
  freeC : ∀ x c, X.env.cells.lookup x = some c → H c = none
  pin : ∀ p ∈ X.pn ++ pins, s.heap.get? p.1 = some p.2 ∧ H p.1 = none ∧ p.1 ≠ X.env.locals ∧ p.1 ∉ X.fs ∧ ∀ v, p.2.data ≠ .cell v
  hok : HOk X.prog X.w H s.heap
  len : σ.length = X.N.length
section
variable {X : Cx} {pins : List (Addr × Obj)} {σ : List (Option V)} {H H' : Hp} {s : Shared} {h' : Heap}
theorem Cx.Ok.nofr (ok : X.Ok) {b : Addr} {o : Obj} (e : X.base.get? b = some o) : b ∉ X.fs := fun hb => by
  have := (ok.funs.mem hb).1
  rw [e] at this; cases this
theorem Inv.bs (I : Inv X pins σ H s) : ∀ b o, X.base.get? b = some o → s.heap.get? b = some o ∧ H b = none := fun b o e =>
  ⟨I.base.keep b o (I.ok.bs b o e).1 (I.ok.bs b o e).2 (I.ok.nofr e) (I.ok.noex b o e), I.base.free b o (I.ok.bs b o e).1 (I.ok.bs b o e).2 (I.ok.noex b o e)⟩
theorem Inv.bk (I : Inv X pins σ H s) : ∀ b o, X.base.get? b = some o → s.heap.get? b = some o := fun b o e => (I.bs b o e).1
theorem Inv.mod (I : Inv X pins σ H s) : Mod X.K X.mg X.base := I.ok.mod
theorem Inv.kIn (I : Inv X pins σ H s) : X.K.In s.heap := I.ok.mod.kin.keeps I.bk
theorem Inv.lt (I : Inv X pins σ H s) : X.env.locals < s.heap.objs.size := let ⟨_, hn, _⟩ := I.loc; hn.lt
theorem Inv.sz (I : Inv X pins σ H s) : X.s₀.heap.objs.size ≤ s.heap.objs.size := Nat.le_trans I.ok.above (Nat.le_of_lt I.lt)
theorem Inv.nofs (I : Inv X pins σ H s) {a : Addr} (h : s.heap.objs.size ≤ a) : a ∉ X.fs := fun hb => by
  obtain ⟨_, o, ho, _⟩ := I.ok.funs.mem hb
  exact absurd (Nat.lt_of_lt_of_le (Heap.lt_size ho) (Nat.le_trans I.sz h)) (Nat.lt_irrefl _)
theorem Inv.cne (I : Inv X pins σ H s) : ∀ x c, X.env.cells.lookup x = some c → c ≠ X.env.locals := fun x c e z => by
  obtain ⟨v, o, ho, hd⟩ := I.cell x c e
  obtain ⟨m, ⟨o', es, ep, ho', hd', _⟩, _⟩ := I.loc
  rw [z, ho'] at ho; cases ho; rw [hd'] at hd; cases hd
theorem Inv.funs (I : Inv X pins σ H s) : s.heap.FunFrames X.base X.outer := by
  have all : ∀ (l : List Env), (∀ b ∈ frs l, b ∈ X.fs) → X.s₀.heap.FunFrames X.base l → s.heap.FunFrames X.base l := by
    intro l
    induction l with
    | nil => intro _ _; trivial
    | cons env r ih =>
      intro hs hl
      obtain ⟨hk, ⟨L, o, hf, hn, ho, hd⟩, hr⟩ := hl
      have hL : L ∈ X.fs := hs L (by unfold frs; rw [List.filterMap_cons, hf]; exact List.mem_cons_self)
      obtain ⟨sl, e⟩ := I.base.slot L o ho (I.ok.frf L hL) hL fun z => I.ok.exfs L z hL
      exact ⟨hk, ⟨L, _, hf, hn, e, hd⟩, ih (fun b hb => hs b (by unfold frs; rw [List.filterMap_cons, hf]; exact List.mem_cons_of_mem _ hb)) hr⟩
  exact all X.outer (fun _ hb => hb) I.ok.funs
theorem Inv.stack (I : Inv X pins σ H s) : s.heap.FunFrames X.base X.stack := by
  rcases I.ok.stk with e | ⟨e, hf⟩
  · rw [e]; exact I.funs
  · rw [e]
    obtain ⟨m, hn, _⟩ := I.loc
    refine .cons (by rw [I.ok.kind]; decide) hf hn ?_ I.funs
    exact Heap.get?_none_of_le (Nat.le_trans I.ok.bsz I.ok.above)
theorem Inv.stkSub (I : Inv X pins σ H s) : ∀ b ∈ frs X.stack, b ∈ X.env.locals :: X.fs := fun b hb => by
  rcases I.ok.stk with e | ⟨e, hf⟩
  · rw [e] at hb; exact List.mem_cons_of_mem _ hb
  · rw [e] at hb
    unfold frs at hb
    rw [List.filterMap_cons, hf] at hb
    exact hb
theorem Inv.stkFree (I : Inv X pins σ H s) : ∀ b ∈ frs X.stack, H b = none := fun b hb => by
  rcases List.mem_cons.mp (I.stkSub b hb) with e | hb
  · rw [e]; exact I.free
  · obtain ⟨_, o, ho, _⟩ := I.ok.funs.mem hb
    exact I.base.free b o ho (I.ok.frf b hb) fun z => I.ok.exfs b z hb
theorem Inv.step {g' : Array GenState} {t' : Nat} {d' : Drawn} {ch : List Addr} (I : Inv X pins σ H s)
    (hch : ∀ b ∈ ch, (b ∈ X.ex ∨ X.s₀.heap.objs.size ≤ b) ∧ b ≠ X.env.locals ∧ (∀ x c, X.env.cells.lookup x = some c → c ≠ b) ∧ ∀ p ∈ X.pn ++ pins, p.1 ≠ b)
    (keep : ∀ b o, b ≠ X.env.locals → b ∉ X.fs → b ∉ ch → s.heap.get? b = some o → H b = none → h'.get? b = some o)
    (slot : ∀ b o, b ≠ X.env.locals → b ∈ X.fs → b ∉ ch → s.heap.get? b = some o → H b = none → ∃ sl, h'.get? b = some { o with slots := sl }) (free : ∀ b o, b ∉ ch → s.heap.get? b = some o → H b = none → H' b = none)
    (there : ∀ b o, b ∉ ch → s.heap.get? b = some o → ∃ o', h'.get? b = some o')
    (tups : ∀ b xs, H b = some (.tup xs) → H' b = some (.tup xs)) (frzs : ∀ b o u, H b = some (.frz o u) → H' b = some (.frz o u)) (tbls : ∀ b ps, H b = some (.tbl ps) → ∃ more, H' b = some (.tbl (ps ++ more)))
    (ns : ∀ m, s.heap.Ns X.env.locals m → h'.Ns X.env.locals m) (hok : HOk X.prog X.w H' h') (hg : AllBare g') :
    Inv X pins σ H' { s with heap := h', gens := g', drawn := d', toks := t' } := by
  have neL : ∀ b o, X.s₀.heap.get? b = some o → b ≠ X.env.locals := fun b o e => Nat.ne_of_lt (Nat.lt_of_lt_of_le (Heap.lt_size e) I.ok.above)
  have neC : ∀ b o, X.s₀.heap.get? b = some o → b ∉ X.ex → b ∉ ch := fun b o e hx hb => by
    rcases (hch b hb).1 with z | z
    · exact hx z
    · exact absurd (Nat.lt_of_lt_of_le (Heap.lt_size e) z) (Nat.lt_irrefl _)
  have cellK : ∀ x c, X.env.cells.lookup x = some c → ∀ v, s.heap.IsCell c v → h'.IsCell c v := fun x c e v ⟨o, ho, hd⟩ => by
    have nch : c ∉ ch := fun z => (hch c z).2.2.1 x c e rfl
    by_cases hc : c ∈ X.fs
    · obtain ⟨sl, q⟩ := slot c o (I.cne x c e) hc nch ho (I.freeC x c e)
      exact ⟨_, q, hd⟩
    · exact ⟨o, keep c o (I.cne x c e) hc nch ho (I.freeC x c e), hd⟩
  refine ⟨I.ok, I.os, hg, ⟨fun b o e n hb hx => ?_, fun b o e n hb hx => ?_, fun b o e n hx => ?_, fun b o e hx => ?_, fun b xs e => tups b xs (I.base.tups b xs e), fun b o xs e => frzs b o xs (I.base.frzs b o xs e), fun b ps e => ?_⟩, ?_, fun x c e => ?_, ?_, fun x c e => ?_, fun p hp => ?_, hok, I.len⟩
  · exact keep b o (neL b o e) hb (neC b o e hx) (I.base.keep b o e n hb hx) (I.base.free b o e n hx)
  · obtain ⟨sl, e1⟩ := I.base.slot b o e n hb hx
    obtain ⟨sl', e2⟩ := slot b _ (neL b o e) hb (neC b o e hx) e1 (I.base.free b o e n hx)
    exact ⟨sl', e2⟩
  · obtain ⟨o', e1⟩ := I.base.there b o e hx
    exact free b o' (neC b o e hx) e1 (I.base.free b o e n hx)
  · obtain ⟨o', e1⟩ := I.base.there b o e hx
    exact there b o' (neC b o e hx) e1
  · obtain ⟨m1, e1⟩ := I.base.tbls b ps e
    obtain ⟨m2, e2⟩ := tbls b _ e1
    exact ⟨m1 ++ m2, by rw [e2, Array.append_assoc]⟩
  · obtain ⟨m, hn, hl⟩ := I.loc
    refine ⟨m, ns m hn, fun i x v e1 e2 e3 => ?_⟩
    obtain ⟨u, r, l⟩ := hl i x v e1 e2 e3
    refine ⟨u, r, ?_⟩
    rcases l with l | ⟨k, c, e, z⟩
    · exact .inl l
    · exact .inr ⟨k, c, e, cellK x c e _ z⟩
  · obtain ⟨v, z⟩ := I.cell x c e
    exact ⟨v, cellK x c e v z⟩
  · obtain ⟨m, ⟨o, _, _, ho, _⟩, _⟩ := I.loc
    exact free _ o (fun z => (hch _ z).2.1 rfl) ho I.free
  · obtain ⟨v, o, ho, hd⟩ := I.cell x c e
    exact free c o (fun z => (hch c z).2.2.1 x c e rfl) ho (I.freeC x c e)
  · obtain ⟨e, n, ne, nf, d⟩ := I.pin p hp
    have nch : p.1 ∉ ch := fun z => (hch p.1 z).2.2.2 p hp rfl
    exact ⟨keep p.1 p.2 ne nf nch e n, free p.1 p.2 nch e n, ne, nf, d⟩
theorem Inv.un {t' : Nat} (I : Inv X pins σ H s) (u : Un X.fs [] H H' s.heap h') (hok : HOk X.prog X.w H' h') : Inv X pins σ H' { s with heap := h', toks := t' } := by
  obtain ⟨m, ⟨o, es, ep, ho, r⟩, _⟩ := id I.loc
  obtain ⟨sl, hL⟩ := u.any ho I.free (by simp)
  exact I.step (g' := s.gens) (d' := s.drawn) (ch := []) (fun _ z => nomatch z) (fun b o _ hb _ e n => u.keep b o e n hb (by simp)) (fun b o _ hb _ e n => u.slot b o e n hb (by simp)) (fun b o _ e n => u.free b o e n (by simp)) (fun b o _ e => u.there b o e (by simp)) u.tups u.frzs u.tbls (fun m' hm => by
    obtain ⟨o', es', ep', ho', r'⟩ := hm
    rw [ho] at ho'; cases ho'
    exact ⟨_, es', ep', hL, r'⟩) hok I.bare
theorem Inv.call {g' : Array GenState} {t' : Nat} {d' : Drawn} {ch : List Addr} (I : Inv X pins σ H s) (u : Un (frs X.stack) ch H H' s.heap h') (hok : HOk X.prog X.w H' h') (hg : AllBare g')
    (hch : ∀ b ∈ ch, (b ∈ X.ex ∨ X.s₀.heap.objs.size ≤ b) ∧ b ≠ X.env.locals ∧ (∀ x c, X.env.cells.lookup x = some c → c ≠ b) ∧ ∀ p ∈ X.pn ++ pins, p.1 ≠ b) :
    Inv X pins σ H' { s with heap := h', gens := g', drawn := d', toks := t' } := by
  obtain ⟨m, ⟨o, es, ep, ho, r⟩, _⟩ := id I.loc
  obtain ⟨sl, hL⟩ := u.any ho I.free fun z => (hch _ z).2.1 rfl
  exact I.step (ch := ch) hch (fun b o hL hb hc e n => u.keep b o e n (fun z => (List.mem_cons.mp (I.stkSub b z)).elim hL hb) hc) (fun b o _ _ hc e n => u.any e n hc) (fun b o hc e n => u.free b o e n hc) (fun b o hc e => u.there b o e hc) u.tups u.frzs u.tbls (fun m' hm => by
    obtain ⟨o', es', ep', ho', r'⟩ := hm
    rw [ho] at ho'; cases ho'
    exact ⟨_, es', ep', hL, r'⟩) hok hg
theorem Inv.turned {t' : Nat} {it : Addr} (I : Inv X pins σ H s) (k : ∀ b o, b ≠ it → s.heap.get? b = some o → h'.get? b = some o) (hn : H it = none) (hL : it ≠ X.env.locals)
    (h1 : it ∈ X.ex ∨ X.s₀.heap.objs.size ≤ it) (h2 : ∀ x c, X.env.cells.lookup x = some c → c ≠ it) (h3 : ∀ p ∈ X.pn ++ pins, p.1 ≠ it) : Inv X pins σ H { s with heap := h', toks := t' } := by
  have nit : ∀ b u, H b = some u → b ≠ it := fun b u e z => by rw [z, hn] at e; cases e
  refine I.step (g' := s.gens) (d' := s.drawn) (ch := [it]) (fun b hb => ?_) (fun b o _ _ hc e _ => k b o (fun z => hc (by simp [z])) e) (fun b o _ _ hc e _ => ⟨o.slots, k b o (fun z => hc (by simp [z])) e⟩) (fun _ _ _ _ n => n)
    (fun b o hc e => ⟨o, k b o (fun z => hc (by simp [z])) e⟩) (fun _ _ e => e) (fun _ _ _ e => e) (fun b ps e => ⟨#[], by rw [e]; simp⟩) (fun m hm => ?_) (fun b u e => ?_) I.bare
  · have e : b = it := by simpa using hb
    subst e
    exact ⟨h1, hL, h2, h3⟩
  · obtain ⟨o, es, ep, ho, r⟩ := hm
    exact ⟨o, es, ep, k _ o (Ne.symm hL) ho, r⟩
  · refine (I.hok b u e).stay (fun c v hc q => k c v ?_ q) (fun _ q => q) fun _ _ q => q
    rcases hc with z | z
    · rw [z]; exact nit b u e
    · exact nit c _ z
theorem Inv.tok (I : Inv X pins σ H s) (t : Nat) : Inv X pins σ H { s with toks := t } := I.un (h' := s.heap) (t' := t) Un.refl I.hok
theorem Inv.kept {t' : Nat} (I : Inv X pins σ H s) (k : ∀ b u, s.heap.get? b = some u → h'.get? b = some u) : Inv X pins σ H { s with heap := h', toks := t' } := I.un (Un.kept k) (I.hok.kept k)
theorem Inv.laid {a : Addr} {o : HO} {t' : Nat} (I : Inv X pins σ H s) (k : ∀ b u, s.heap.get? b = some u → h'.get? b = some u) (hp : s.heap.objs.size ≤ a) (new : ObjOk X.prog X.w (upd H a o) h' a o) :
    Inv X pins σ (upd H a o) { s with heap := h', toks := t' } := I.un (Un.laid k hp (I.hok.fresh hp)) (I.hok.laid k hp new)
theorem Inv.write {x e : Addr} {o : HO} {t' : Nat} (I : Inv X pins σ H s) (mu : Mut (H x)) (he : e = x ∨ H e = some (.own x)) (k : ∀ b u, b ≠ e → s.heap.get? b = some u → h'.get? b = some u) (heo : ∃ u, h'.get? e = some u)
    (new : ObjOk X.prog X.w (upd H x o) h' x o) : Inv X pins σ (upd H x o) { s with heap := h', toks := t' } := I.un (Un.write mu he k heo) (I.hok.write mu he k heo new)
theorem Inv.weak {σ' : List (Option V)} (I : Inv X pins σ H s) (hl : σ'.length = σ.length) (w : ∀ (i : Nat) v, σ'[i]? = some (some v) → σ[i]? = some (some v)) : Inv X pins σ' H s :=
  ⟨I.ok, I.os, I.bare, I.base, let ⟨m, hn, hl'⟩ := I.loc; ⟨m, hn, fun i x v e1 e2 e3 => hl' i x v e1 (w i v e2) e3⟩, I.cell, I.free, I.freeC, I.pin, I.hok, hl.trans I.len⟩
theorem Inv.pins_of {pins' : List (Addr × Obj)} (I : Inv X pins σ H s) (h : ∀ p ∈ pins', s.heap.get? p.1 = some p.2 ∧ H p.1 = none ∧ p.1 ≠ X.env.locals ∧ p.1 ∉ X.fs ∧ ∀ v, p.2.data ≠ .cell v) : Inv X pins' σ H s :=
  ⟨I.ok, I.os, I.bare, I.base, I.loc, I.cell, I.free, I.freeC, fun p hp => (List.mem_append.mp hp).elim (fun z => I.pin p (List.mem_append_left _ z)) (h p), I.hok, I.len⟩
theorem nodup_ix {N : List Str} (hN : N.Nodup) {i j : Nat} {x : Str} (a : N[i]? = some x) (b : N[j]? = some x) : i = j := by
  obtain ⟨h1, e1⟩ := List.getElem?_eq_some_iff.mp a
  obtain ⟨h2, e2⟩ := List.getElem?_eq_some_iff.mp b
  exact (List.getElem_inj hN).mp (e1.trans e2.symm)
theorem store_ok2 {M : Model} {A : Around} {E : Value → Shared → Prop} {i : Nat} {x : Str} {v : V} {u : Value} {Q : Unit → Shared → Prop} (I : Inv X pins σ H s) (hN : X.N.Nodup) (hi : X.N[i]? = some x) (hx : Loc X.env.scope x) (r : RelV v u)
    (h : ∀ s', Inv X pins (σ.set i (some v)) H s' → (∃ a, Heap.SameBut a s.heap s'.heap ∧ (a = X.env.locals ∨ X.env.cells.lookup x = some a)) → Q () s') (hf : X.fn x = true ∨ X.env.scope.names.lookup x = some .local := by first | exact .inl rfl | exact .inr rfl | assumption) : wpAny M A (storeName X.env x u) Q E s := by
  obtain ⟨m, hn, hl⟩ := id I.loc
  have hcls : (X.env.scope.kind == .class || (X.env.scope.kind == .module && X.env.locals != X.env.globals)) = false := by rw [I.ok.kind]; rfl
  have hiσ : i < σ.length := by rw [I.len]; exact (List.getElem?_eq_some_iff.mp hi).1
  have cne := I.cne
  have tracked : ∀ {a : Addr} {h' : Heap}, (∃ o, s.heap.get? a = some o ∧ H a = none) → Heap.SameBut a s.heap h' → HOk X.prog X.w H h' := fun {a h'} ha hs b ob e => by
    obtain ⟨_, _, hfree⟩ := ha
    refine (I.hok b ob e).stay (fun c w' hc q => (hs.2 c ?_).trans q) (fun _ q => q) fun _ _ q => q
    rintro rfl
    rcases hc with rfl | hc
    · rw [hfree] at e; cases e
    · rw [hfree] at hc; cases hc
  rcases hx with hk | hk
  · refine wpAny_storeName_local hk hn (fun h' hn' hs => ?_) hcls
    obtain ⟨oL, _, _, hoL, _⟩ := id hn
    refine h _ ⟨I.ok, I.os, I.bare, ⟨fun b o e n hb hx => ?_, fun b o e n hb hx => ?_, I.base.free, fun b o e hx => ?_, I.base.tups, I.base.frzs, I.base.tbls⟩, ⟨_, hn', fun j y v' e1 e2 e3 => ?_⟩, fun y c e => ?_, I.free, I.freeC, fun p hp => ?_, tracked ⟨oL, hoL, I.free⟩ hs, by simpa using I.len⟩ ⟨_, hs, .inl rfl⟩
    · exact (hs.2 b (Nat.ne_of_lt (Nat.lt_of_lt_of_le (Heap.lt_size e) I.ok.above))).trans (I.base.keep b o e n hb hx)
    · obtain ⟨sl, e1⟩ := I.base.slot b o e n hb hx
      exact ⟨sl, (hs.2 b (Nat.ne_of_lt (Nat.lt_of_lt_of_le (Heap.lt_size e) I.ok.above))).trans e1⟩
    · obtain ⟨o', e1⟩ := I.base.there b o e hx
      exact ⟨o', (hs.2 b (Nat.ne_of_lt (Nat.lt_of_lt_of_le (Heap.lt_size e) I.ok.above))).trans e1⟩
    · by_cases hj : j = i
      · subst hj
        rw [hi] at e1; cases e1
        rw [List.getElem?_set_self hiσ] at e2
        cases e2
        exact ⟨u, r, .inl ⟨hk, by simp⟩⟩
      · rw [List.getElem?_set_ne (Ne.symm hj)] at e2
        obtain ⟨u', r', q⟩ := hl j y v' e1 e2 e3
        refine ⟨u', r', ?_⟩
        rcases q with ⟨k, e⟩ | ⟨k, c, e, z⟩
        · refine .inl ⟨k, ?_⟩
          have : y ≠ x := fun e => hj (nodup_ix hN e1 (e ▸ hi))
          simp [this, e]
        · exact .inr ⟨k, c, e, z.sameBut hs (cne y c e)⟩
    · obtain ⟨w', z⟩ := I.cell y c e
      exact ⟨w', z.sameBut hs (cne y c e)⟩
    · obtain ⟨e, n, ne, nf, d⟩ := I.pin p hp
      exact ⟨(hs.2 p.1 ne).trans e, n, ne, nf, d⟩
  · have hfn : X.fn x = true := by
      rcases hf with z | z
      · exact z
      · rw [z] at hk; cases hk
    obtain ⟨c, hc⟩ := I.ok.has x (.inl hk)
    obtain ⟨w', z⟩ := I.cell x c hc
    refine wpAny_storeName_cell I.ok.kind hk hc z (fun h' hc' hs => ?_)
    obtain ⟨oc, hoc, hocd⟩ := id z
    refine h { s with heap := h' } ⟨I.ok, I.os, I.bare, ⟨fun b o e n hb hx => ?_, fun b o e n hb hx => ?_, I.base.free, fun b o e hx => ?_, I.base.tups, I.base.frzs, I.base.tbls⟩, ⟨m, hn.sameBut hs (Ne.symm (cne x c hc)), fun j y v' e1 e2 e3 => ?_⟩, fun y c' e => ?_, I.free, I.freeC, fun p hp => ?_, tracked ⟨oc, hoc, I.freeC x c hc⟩ hs, by simpa using I.len⟩ ⟨c, hs, .inr hc⟩
    · exact (hs.2 b (Nat.ne_of_lt (Nat.lt_of_lt_of_le (Heap.lt_size e) (I.ok.cab x c hfn hc)))).trans (I.base.keep b o e n hb hx)
    · obtain ⟨sl, e1⟩ := I.base.slot b o e n hb hx
      exact ⟨sl, (hs.2 b (Nat.ne_of_lt (Nat.lt_of_lt_of_le (Heap.lt_size e) (I.ok.cab x c hfn hc)))).trans e1⟩
    · obtain ⟨o', e1⟩ := I.base.there b o e hx
      exact ⟨o', (hs.2 b (Nat.ne_of_lt (Nat.lt_of_lt_of_le (Heap.lt_size e) (I.ok.cab x c hfn hc)))).trans e1⟩
    · by_cases hj : j = i
      · subst hj
        rw [hi] at e1; cases e1
        rw [List.getElem?_set_self hiσ] at e2
        cases e2
        exact ⟨u, r, .inr ⟨.inl hk, c, hc, hc'⟩⟩
      · rw [List.getElem?_set_ne (Ne.symm hj)] at e2
        obtain ⟨u', r', q⟩ := hl j y v' e1 e2 e3
        refine ⟨u', r', ?_⟩
        rcases q with q | ⟨k, c', e, z'⟩
        · exact .inl q
        · refine .inr ⟨k, c', e, z'.sameBut hs ?_⟩
          rintro rfl
          exact hj (nodup_ix hN e1 (I.ok.inj _ _ _ e hc ▸ hi))
    · by_cases hcc : c' = c
      · subst hcc; exact ⟨_, hc'⟩
      · obtain ⟨w2, z2⟩ := I.cell y c' e
        exact ⟨w2, z2.sameBut hs hcc⟩
    · obtain ⟨e, n, ne, nf, d⟩ := I.pin p hp
      refine ⟨(hs.2 p.1 ?_).trans e, n, ne, nf, d⟩
      intro q
      rw [q, hoc] at e
      have q' : oc = p.2 := Option.some.inj e
      exact d w' (by rw [← q']; exact hocd)
theorem store_ok {M : Model} {A : Around} {E : Value → Shared → Prop} {i : Nat} {x : Str} {v : V} {u : Value} {Q : Unit → Shared → Prop} (I : Inv X pins σ H s) (hN : X.N.Nodup) (hi : X.N[i]? = some x) (hx : Loc X.env.scope x) (r : RelV v u)
    (h : ∀ s', Inv X pins (σ.set i (some v)) H s' → Q () s') (hf : X.fn x = true ∨ X.env.scope.names.lookup x = some .local := by first | exact .inl rfl | exact .inr rfl | assumption) : wpAny M A (storeName X.env x u) Q E s :=
  store_ok2 I hN hi hx r (fun s' I' _ => h s' I') hf
theorem Inv.call' {s' : Shared} {ch : List Addr} (I : Inv X pins σ H s) (ho : s'.os = s.os) (u : Un (frs X.stack) ch H H' s.heap s'.heap) (hok : HOk X.prog X.w H' s'.heap) (hg : AllBare s'.gens)
    (hch : ∀ b ∈ ch, (b ∈ X.ex ∨ X.s₀.heap.objs.size ≤ b) ∧ b ≠ X.env.locals ∧ (∀ x c, X.env.cells.lookup x = some c → c ≠ b) ∧ ∀ p ∈ X.pn ++ pins, p.1 ≠ b) : Inv X pins σ H' s' := by
  obtain ⟨h', g', d', t', o'⟩ := s'
  have e : o' = s.os := ho
  subst e
  exact I.call (g' := g') (t' := t') (d' := d') u hok hg hch
end
abbrev XK := Value → Option Addr → Hp → Prop
abbrev St := List (Option V)
abbrev VK := V → Hp → Prop
abbrev TE := St → Hp → VK → Prop
abbrev TT := St → Hp → (Bool → Hp → Prop) → Prop
abbrev TA := St → Hp → (List V → Hp → Prop) → Prop
structure Ends where
  nx : St → Hp → Prop
  rt : VK
  bk : St → Hp → Prop := fun _ _ => False
  ct : St → Hp → Prop := fun _ _ => False
abbrev TS := Ends → St → Hp → Prop
def EP (X : Cx) (pins : List (Addr × Obj)) (σ : St) (Q : VK) (u : Value) (s' : Shared) : Prop := ∃ v H', Inv X pins σ H' s' ∧ RelV v u ∧ Q v H'
def TP (X : Cx) (pins : List (Addr × Obj)) (σ : St) (Q : Bool → Hp → Prop) (b : Bool) (s' : Shared) : Prop := ∃ H', Inv X pins σ H' s' ∧ Q b H'
def AP (X : Cx) (pins : List (Addr × Obj)) (σ : St) (Q : List V → Hp → Prop) (us : List Value) (s' : Shared) : Prop := ∃ vs H', Inv X pins σ H' s' ∧ Vals vs us ∧ Q vs H'
def SP (X : Cx) (pins : List (Addr × Obj)) (D : Ends) (f : Flow) (s' : Shared) : Prop :=
  match f with
  | .next => ∃ σ' H', Inv X pins σ' H' s' ∧ D.nx σ' H'
  | .brk => ∃ σ' H', Inv X pins σ' H' s' ∧ D.bk σ' H'
  | .cont => ∃ σ' H', Inv X pins σ' H' s' ∧ D.ct σ' H'
  | .ret u => ∃ v σ' H', Inv X pins σ' H' s' ∧ RelV v u ∧ D.rt v H'
def PE (X : Cx) (e : Expr) (t : TE) : Prop :=
  ∀ (pins : List (Addr × Obj)) (s : Shared) (σ : St) (H : Hp) (Q : VK), Inv X pins σ H s → t σ H Q → wpAny (model X.prog X.w) X.A (eval e X.env) (EP X pins σ Q) X.xe s
def PT (X : Cx) (e : Expr) (t : TT) : Prop :=
  ∀ (pins : List (Addr × Obj)) (s : Shared) (σ : St) (H : Hp) (Q : Bool → Hp → Prop), Inv X pins σ H s → t σ H Q → wpAny (model X.prog X.w) X.A (isTrue e X.env (eval e X.env)) (TP X pins σ Q) X.xe s
def PW (X : Cx) (e : Expr) (t : TT) : Prop :=
  ∀ (whole : Sem Value) (pins : List (Addr × Obj)) (s : Shared) (σ : St) (H : Hp) (Q : Bool → Hp → Prop), Inv X pins σ H s → t σ H Q → wpAny (model X.prog X.w) X.A (isTrue e X.env whole) (TP X pins σ Q) X.xe s
theorem PW.pt {X : Cx} {e : Expr} {t : TT} (h : PW X e t) : PT X e t := h _
def PA (X : Cx) (es : List Expr) (t : TA) : Prop :=
  ∀ (pos : Pos) (pins : List (Addr × Obj)) (s : Shared) (σ : St) (H : Hp) (Q : List V → Hp → Prop), Inv X pins σ H s → t σ H Q → wpAny (model X.prog X.w) X.A (spliced (backTo pos (starEach es X.env))) (AP X pins σ Q) X.xe s
def PS (X : Cx) (st : Stmt) (t : TS) : Prop :=
  ∀ (pins : List (Addr × Obj)) (s : Shared) (σ : St) (H : Hp) (D : Ends), Inv X pins σ H s → t D σ H → wpAny (model X.prog X.w) X.A (exec st X.env) (SP X pins D) X.xe s
def PSs (X : Cx) (st : List Stmt) (t : TS) : Prop :=
  ∀ (pins : List (Addr × Obj)) (s : Shared) (σ : St) (H : Hp) (D : Ends), Inv X pins σ H s → t D σ H → wpAny (model X.prog X.w) X.A (execs st X.env) (SP X pins D) X.xe s
theorem thn {α : Type} {t : Sem α} {Q Q' : α → Shared → Prop} {M : Model} {A : Around} {E : Value → Shared → Prop} {s : Shared} (h : wpAny M A t Q E s) (hQ : ∀ a s, Q a s → Q' a s) : wpAny M A t Q' E s := wpAny_mono h hQ fun _ _ x => x
end L2
namespace L2
open PySem PySem.Spec PyProof.Rows
section
variable {X : Cx}
def tVar (i : Nat) : TE := fun σ H Q => ∃ v, σ[i]? = some (some v) ∧ Q v H
def tC (v : V) : TE := fun _ H Q => Q v H
theorem pe_var {i : Nat} {x : Str} {pos : Pos} (hN : X.N[i]? = some x) (hv : Vis X.env.scope x) (hd : (x == ("__debug__" : Str)) = false := by decide) (hcd : (x == ("__classdict__" : Str)) = false := by decide) : PE X (.Name x pos) (tVar i) := by
  intro pins s σ H Q I h
  obtain ⟨v, e, h⟩ := h
  obtain ⟨m, hn, hl⟩ := I.loc
  obtain ⟨u, r, l⟩ := hl i x v hN e hv
  have fin : EP X pins σ Q u s := ⟨v, H, I, r, h⟩
  rcases l with ⟨hk, hm⟩ | ⟨hk, c, hc, hcell⟩
  · exact wpAny_Name (wpAny_loadName_local I.ok.kind hk hn hm fin) hd
  · rcases hk with hk | hk
    · exact wpAny_Name (wpAny_loadName_cell I.ok.kind hk hc hcell fin) hd
    · exact wpAny_Name (wpAny_loadName_free I.ok.kind hk hc hcell fin hcd) hd
theorem pe_int {i j pos} : PE X (.Constant (.int i) j pos) (tC (.int i)) := fun _ _ _ H _ I h => wpAny_Constant_int ⟨.int i, H, I.tok _, ⟨_, rfl⟩, h⟩
theorem pe_bl {b j pos} : PE X (.Constant (.bool b) j pos) (tC (.bl b)) := fun _ _ _ H _ I h => Constant_bool ⟨.bl b, H, I, rfl, h⟩
theorem pe_str {x j pos} : PE X (.Constant (.str x) j pos) (tC (.str x)) := fun _ _ _ H _ I h => Calls.Constant_str ⟨.str x, H, I.tok _, ⟨_, rfl⟩, h⟩
def Gl (X : Cx) (x : Str) : Prop := X.env.kindOf x = some .globalImplicit
theorem ld_glob {E : Value → Shared → Prop} {pins : List (Addr × Obj)} {s : Shared} {σ : St} {H : Hp} {x : Str} {u : Value} {pos : Pos} {Q : Value → Shared → Prop} (I : Inv X pins σ H s) (hg : Gl X x) (hm : X.mg x = some u) (h : Q u s)
    (hd : (x == ("__debug__" : Str)) = false := by decide) : wpAny (model X.prog X.w) X.A (eval (.Name x pos) X.env) Q E s :=
  Calls.Name_function_global I.ok.kind hg (Calls.loadGlobal_global (by rw [I.ok.glob]; exact I.mod.glob.keeps I.bk) hm h) hd
theorem ld_blt {E : Value → Shared → Prop} {pins : List (Addr × Obj)} {s : Shared} {σ : St} {H : Hp} {x : Str} {u : Value} {pos : Pos} {Q : Value → Shared → Prop} (I : Inv X pins σ H s) (hg : Gl X x) (hm : X.mg x = none) (hv : bootBuiltins x = some u) (h : Q u s)
    (hn : x ≠ "__name__" := by decide) (hd : (x == ("__debug__" : Str)) = false := by decide) : wpAny (model X.prog X.w) X.A (eval (.Name x pos) X.env) Q E s := by
  obtain ⟨mb, h1, h2⟩ := I.mod.blt
  exact Calls.Name_function_global I.ok.kind hg (Calls.loadGlobal_builtin (by rw [I.ok.glob]; exact I.mod.glob.keeps I.bk) hm (by rw [I.ok.blt]; exact h1.keeps I.bk) ((h2 x hn).trans hv) h) hd
theorem pe_glob {x : Str} {v : V} {u : Value} {pos : Pos} (hg : Gl X x) (hm : X.mg x = some u) (r : RelV v u) (hd : (x == ("__debug__" : Str)) = false := by decide) : PE X (.Name x pos) (tC v) :=
  fun _ _ _ H _ I h => ld_glob I hg hm ⟨v, H, I, r, h⟩ hd
theorem pe_bltn {x : Str} {v : V} {u : Value} {pos : Pos} (hg : Gl X x) (hm : X.mg x = none) (hv : bootBuiltins x = some u) (r : RelV v u) (hn : x ≠ "__name__" := by decide) (hd : (x == ("__debug__" : Str)) = false := by decide) : PE X (.Name x pos) (tC v) :=
  fun _ _ _ H _ I h => ld_blt I hg hm hv ⟨v, H, I, r, h⟩ hn hd
variable {a b : Expr} {ta tb : TE} {pos : Pos}
variable {tA tB' : TT} {rest : List Expr}
def tAnd (t u : TT) : TT := fun σ H Q => t σ H fun c H1 => if c = true then u σ H1 Q else Q false H1
def tOr (t u : TT) : TT := fun σ H Q => t σ H fun c H1 => if c = true then Q true H1 else u σ H1 Q
def tNot (t : TT) : TT := fun σ H Q => t σ H fun c H1 => Q (!c) H1
theorem pw_and1 (ha : PT X a tA) : PW X (.BoolOp .And [a] pos) tA := by
  intro wh pins s σ H Q I h
  refine isTrue_and (thn (ha pins s σ H Q I h) fun c s1 e => ?_)
  cases c with
  | true => exact isTrue_and_nil e
  | false => exact e
theorem pw_or1 (ha : PT X a tA) : PW X (.BoolOp .Or [a] pos) tA := by
  intro wh pins s σ H Q I h
  refine isTrue_or (thn (ha pins s σ H Q I h) fun c s1 e => ?_)
  cases c with
  | false => exact isTrue_or_nil e
  | true => exact e
theorem pw_and (ha : PT X a tA) (hb : PW X (.BoolOp .And (b :: rest) pos) tB') : PW X (.BoolOp .And (a :: b :: rest) pos) (tAnd tA tB') := by
  intro wh pins s σ H Q I h
  refine isTrue_and (thn (ha pins s σ H _ I h) fun c s1 ⟨H1, I1, q1⟩ => ?_)
  cases c with
  | true => exact hb wh pins s1 σ H1 Q I1 q1
  | false => exact ⟨H1, I1, q1⟩
theorem pw_or (ha : PT X a tA) (hb : PW X (.BoolOp .Or (b :: rest) pos) tB') : PW X (.BoolOp .Or (a :: b :: rest) pos) (tOr tA tB') := by
  intro wh pins s σ H Q I h
  refine isTrue_or (thn (ha pins s σ H _ I h) fun c s1 ⟨H1, I1, q1⟩ => ?_)
  cases c with
  | true => exact ⟨H1, I1, q1⟩
  | false => exact hb wh pins s1 σ H1 Q I1 q1
theorem pt_not (ha : PT X a tA) : PT X (.UnaryOp .Not a pos) (tNot tA) := by
  intro pins s σ H Q I h
  exact isTrue_not (ha pins s σ H (fun c H1 => Q (!c) H1) I h)
def tAndV (ta tb : TE) : TE := fun σ H Q => ta σ H fun x H1 => ∃ c, x = .bl c ∧ if c = true then tb σ H1 Q else Q (.bl false) H1
def tOrV (ta tb : TE) : TE := fun σ H Q => ta σ H fun x H1 => ∃ c, x = .bl c ∧ if c = true then Q (.bl true) H1 else tb σ H1 Q
def tNotV (ta : TE) : TE := fun σ H Q => ta σ H fun x H1 => ∃ c, x = .bl c ∧ Q (.bl (!c)) H1
theorem pe_one {op} {t : TE} (h : PE X a t) : PE X (.BoolOp op [a] pos) t := fun pins s σ H Q I hw => BoolOp_one (h pins s σ H Q I hw)
theorem pe_and (ha : PE X a ta) (hb : PE X (.BoolOp .And (b :: rest) pos) tb) : PE X (.BoolOp .And (a :: b :: rest) pos) (tAndV ta tb) := by
  intro pins s σ H Q I h
  refine BoolOp_and (thn (ha pins s σ H _ I h) fun v s1 ⟨x, H1, I1, r1, q1⟩ => ?_)
  obtain ⟨c, rfl, q1⟩ := q1
  cases r1
  refine wpAny_truthy_bool ?_
  cases c with
  | true => exact hb pins s1 σ H1 Q I1 q1
  | false => exact ⟨.bl false, H1, I1, rfl, q1⟩
theorem pe_or (ha : PE X a ta) (hb : PE X (.BoolOp .Or (b :: rest) pos) tb) : PE X (.BoolOp .Or (a :: b :: rest) pos) (tOrV ta tb) := by
  intro pins s σ H Q I h
  refine BoolOp_or (thn (ha pins s σ H _ I h) fun v s1 ⟨x, H1, I1, r1, q1⟩ => ?_)
  obtain ⟨c, rfl, q1⟩ := q1
  cases r1
  refine wpAny_truthy_bool ?_
  cases c with
  | false => exact hb pins s1 σ H1 Q I1 q1
  | true => exact ⟨.bl true, H1, I1, rfl, q1⟩
theorem pe_not (ha : PE X a ta) : PE X (.UnaryOp .Not a pos) (tNotV ta) := by
  intro pins s σ H Q I h
  refine UnaryOp_ (thn (ha pins s σ H _ I h) fun v s1 ⟨x, H1, I1, r1, q1⟩ => ?_)
  obtain ⟨c, rfl, q1⟩ := q1
  cases r1
  exact not_of (wpAny_truthy_bool ⟨.bl (!c), H1, I1, rfl, q1⟩)
end
end L2
namespace L2
open PySem PySem.Spec PyProof.Rows
def SqL (K : PySem.W.Frag) (H : Hp) (a : Addr) (xs : List V) : Prop :=
  Rd H a (.lst xs) ∨
    ∃ (o : Obj) (its : Array Value) (n : Nat), K.lookup a = some o ∧ o.cls = .type "list" ∧ o.dict = none ∧ o.data = .seq its n ∧ its.size ≤ sizeLine ∧ Vals xs its.toList
def SqT (K : PySem.W.Frag) (H : Hp) (a : Addr) (xs : List V) : Prop :=
  Rd H a (.tup xs) ∨
    ∃ (o : Obj) (its : Array Value) (n : Nat), K.lookup a = some o ∧ o.cls = .type "tuple" ∧ o.data = .seq its n ∧ its.size ≤ sizeLine ∧ Vals xs its.toList
def absV : Value → Option V
  | .none => some .non
  | .bool b => some (.bl b)
  | .int i _ => some (.int i)
  | .str x _ => some (.str x)
  | .bytes b _ => some (.byt b)
  | .float b _ => some (.flt b)
  | .ref a => some (.ref a)
  | .type n => some (.ty n)
  | _ => none
theorem RelV.abs {x : V} {u : Value} (r : RelV x u) : absV u = some x := by
  cases x with
  | non => cases r; rfl
  | bl _ => cases r; rfl
  | int _ => obtain ⟨t, rfl⟩ := r; rfl
  | str _ => obtain ⟨t, rfl⟩ := r; rfl
  | byt _ => obtain ⟨t, rfl⟩ := r; rfl
  | flt _ => obtain ⟨t, rfl⟩ := r; rfl
  | ref _ => cases r; rfl
  | ty _ => cases r; rfl
theorem RelV.inj {x y : V} {u : Value} (r : RelV x u) (q : RelV y u) : x = y := Option.some.inj (r.abs.symm.trans q.abs)
theorem Vals.inj : ∀ {xs ys : List V} {us : List Value}, Vals xs us → Vals ys us → xs = ys
  | _, _, _, .nil, .nil => rfl
  | _, _, _, .cons r t, .cons r' t' => by rw [r.inj r', Vals.inj t t']
section
variable {X : Cx} {pins : List (Addr × Obj)} {σ : St} {H : Hp} {s : Shared} {a : Addr} {xs ys : List V}
theorem SqL.of {K : PySem.W.Frag} (h : H a = some (.lst xs)) : SqL K H a xs := .inl (.inl h)
theorem Inv.list (I : Inv X pins σ H s) (h : SqL X.K H a xs) : ∃ its : List Value, Vals xs its ∧ PlainL s.heap a its.toArray ∧ xs.length ≤ sizeLine := by
  rcases h with h | ⟨o, its, n, hk, hc, hd, hs, hz, r⟩
  · obtain ⟨z, its, n, r, e⟩ := h.ok I.hok
    exact ⟨its, r, ⟨_, n, e, rfl, rfl, rfl⟩, z⟩
  · refine ⟨its.toList, r, ⟨o, n, I.kIn a o hk, hc, hd, by simpa using hs⟩, ?_⟩
    have e := r.length
    simp only [Array.length_toList] at e
    omega
theorem Inv.tuple (I : Inv X pins σ H s) (h : SqT X.K H a xs) : ∃ its : List Value, Vals xs its ∧ IsTup s.heap a its.toArray ∧ xs.length ≤ sizeLine := by
  rcases h with h | ⟨o, its, n, hk, hc, hs, hz, r⟩
  · obtain ⟨z, its, r, p⟩ := h.ok I.hok
    exact ⟨its, r, p, z⟩
  · refine ⟨its.toList, r, ⟨o, I.kIn a o hk, hc, n, by simpa using hs⟩, ?_⟩
    have e := r.length
    simp only [Array.length_toList] at e
    omega
theorem Inv.list_inj (I : Inv X pins σ H s) (h : SqL X.K H a xs) (h' : SqL X.K H a ys) : xs = ys := by
  obtain ⟨its, r, ⟨o, n, e, _, _, d⟩, _⟩ := I.list h
  obtain ⟨its', r', ⟨o', n', e', _, _, d'⟩, _⟩ := I.list h'
  rw [e] at e'; cases e'
  rw [d] at d'
  injection d' with d1 _
  have : its = its' := by simpa using congrArg Array.toList d1
  subst this
  exact r.inj r'
theorem Inv.tuple_inj (I : Inv X pins σ H s) (h : SqT X.K H a xs) (h' : SqT X.K H a ys) : xs = ys := by
  obtain ⟨its, r, ⟨o, e, _, n, d⟩, _⟩ := I.tuple h
  obtain ⟨its', r', ⟨o', e', _, n', d'⟩, _⟩ := I.tuple h'
  rw [e] at e'; cases e'
  rw [d] at d'
  injection d' with d1 _
  have : its = its' := by simpa using congrArg Array.toList d1
  subst this
  exact r.inj r'
end
abbrev Cx.wish (X : Cx) (E : Value → Shared → Prop) : Cx := { X with xe := E }
abbrev Cx.nox (X : Cx) : Cx := X.wish fun _ _ => False
theorem Cx.Ok.wish {X : Cx} (ok : X.Ok) (E : Value → Shared → Prop) : (X.wish E).Ok :=
  ⟨ok.mod, ok.kind, ok.glob, ok.blt, ok.above, ok.inj, ok.has, ok.cab, ok.hd, ok.frames, ok.stk, ok.exf, ok.bs, ok.bsz, ok.noex, ok.exfs, ok.funs, ok.frf⟩
theorem Cx.Ok.unwish {X : Cx} {E : Value → Shared → Prop} (ok : (X.wish E).Ok) : X.Ok :=
  ⟨ok.mod, ok.kind, ok.glob, ok.blt, ok.above, ok.inj, ok.has, ok.cab, ok.hd, ok.frames, ok.stk, ok.exf, ok.bs, ok.bsz, ok.noex, ok.exfs, ok.funs, ok.frf⟩
section
variable {X : Cx} {pins : List (Addr × Obj)} {σ : St} {H : Hp} {s : Shared} {E : Value → Shared → Prop}
theorem Inv.wish (I : Inv X pins σ H s) (E : Value → Shared → Prop) : Inv (X.wish E) pins σ H s := ⟨I.ok.wish E, I.os, I.bare, I.base, I.loc, I.cell, I.free, I.freeC, I.pin, I.hok, I.len⟩
theorem Inv.unwish (I : Inv (X.wish E) pins σ H s) : Inv X pins σ H s := ⟨I.ok.unwish, I.os, I.bare, I.base, I.loc, I.cell, I.free, I.freeC, I.pin, I.hok, I.len⟩
theorem SP.unwish {D : Ends} {f : Flow} {s' : Shared} (h : SP (X.wish E) pins D f s') : SP X pins D f s' := by
  cases f with
  | next => obtain ⟨σ', H', I, q⟩ := h; exact ⟨σ', H', I.unwish, q⟩
  | brk => obtain ⟨σ', H', I, q⟩ := h; exact ⟨σ', H', I.unwish, q⟩
  | cont => obtain ⟨σ', H', I, q⟩ := h; exact ⟨σ', H', I.unwish, q⟩
  | ret u => obtain ⟨v, σ', H', I, r, q⟩ := h; exact ⟨v, σ', H', I.unwish, r, q⟩
theorem PSs.nox {st : List Stmt} {t : TS} (h : PSs X.nox st t) : PSs X st t := fun pins s σ H D I hw =>
  wpAny_mono (h pins s σ H D (I.wish _) hw) (fun _ _ q => q.unwish) fun _ _ z => False.elim z
end
section
variable {X : Cx} {st : Stmt} {rest : List Stmt} {t u : TS} {e : Expr} {te : TE} {pos : Pos}
def tNext : TS := fun D σ H => D.nx σ H
def tSeq (t u : TS) : TS := fun D σ H => t { D with nx := u D } σ H
theorem pss_nil : PSs X [] tNext := fun _ _ σ H _ I h => wpAny_execs_nil ⟨σ, H, I, h⟩
theorem pss_cons (h1 : PS X st t) (h2 : PSs X rest u) : PSs X (st :: rest) (tSeq t u) := by
  intro pins s σ H D I h
  refine wpAny_execs_cons (thn (h1 pins s σ H { D with nx := u D } I h) fun f s1 q => ?_)
  cases f with
  | next =>
    obtain ⟨σ', H', I', q⟩ := q
    exact h2 pins s1 σ' H' D I' q
  | ret v => exact q
  | brk => exact q
  | cont => exact q
theorem pss_one (h1 : PS X st t) : PSs X [st] t := by
  intro pins s σ H D I h
  refine wpAny_execs_cons (thn (h1 pins s σ H D I h) fun f s1 q => ?_)
  cases f with
  | next => exact wpAny_execs_nil q
  | ret v => exact q
  | brk => exact q
  | cont => exact q
theorem Inv.quiet {pins : List (Addr × Obj)} {σ : St} {H : Hp} {s : Shared} (I : Inv X pins σ H s) : interactive X.env = false := by simp [interactive, I.ok.kind]
def tDrop (te : TE) : TS := fun D σ H => te σ H fun _ H1 => D.nx σ H1
theorem ps_expr (he : PE X e te) (hs : swapsWith e none pos.line X.env = pure false := by rfl) : PS X (.Expr e pos) (tDrop te) := by
  intro pins s σ H D I h
  exact wpAny_Expr_any (thn (he pins s σ H _ I h) fun v s1 ⟨x, H1, I1, r1, q1⟩ => ⟨σ, H1, I1, q1⟩) I.quiet hs
def tRet (te : TE) : TS := fun D σ H => te σ H D.rt
theorem ps_ret (he : PE X e te) : PS X (.Return (some e) pos) (tRet te) := by
  intro pins s σ H D I h
  exact wpAny_Return_some (thn (he pins s σ H _ I h) fun v s1 ⟨x, H1, I1, r1, q1⟩ => ⟨x, σ, H1, I1, r1, q1⟩)
def tIfS (c : TT) (t u : TS) : TS := fun D σ H => c σ H fun b H1 => if b = true then t D σ H1 else u D σ H1
theorem ps_if {c : Expr} {a b : List Stmt} {tc : TT} (hc : PT X c tc) (ha : PSs X a t) (hb : PSs X b u) : PS X (.If c a b pos) (tIfS tc t u) := by
  intro pins s σ H D I h
  refine wpAny_If (thn (hc pins s σ H _ I h) fun d s1 ⟨H1, I1, q1⟩ => ?_)
  cases d with
  | true => exact ha pins s1 σ H1 D I1 q1
  | false => exact hb pins s1 σ H1 D I1 q1
end
abbrev TG := V → St → Hp → (St → Hp → Prop) → Prop
abbrev TGs := List V → St → Hp → (St → Hp → Prop) → Prop
def PG (X : Cx) (target : Expr) (t : TG) : Prop :=
  ∀ (pins : List (Addr × Obj)) (s : Shared) (σ : St) (H : Hp) (v : V) (u : Value) (Q : St → Hp → Prop), Inv X pins σ H s → RelV v u → t v σ H Q →
    wpAny (model X.prog X.w) X.A (assign target X.env u) (fun _ s' => ∃ σ' H', Inv X pins σ' H' s' ∧ Q σ' H') X.xe s
def PGs (X : Cx) (ts : List Expr) (t : TGs) : Prop :=
  ∀ (pins : List (Addr × Obj)) (s : Shared) (σ : St) (H : Hp) (vs : List V) (us : List Value) (Q : St → Hp → Prop), Inv X pins σ H s → Vals vs us → t vs σ H Q →
    wpAny (model X.prog X.w) X.A (assignInOrder ((assignEach ts X.env).map (·.2)) us) (fun _ s' => ∃ σ' H', Inv X pins σ' H' s' ∧ Q σ' H') X.xe s
abbrev TSet := V → V → V → Hp → (Hp → Prop) → Prop
def PSet (X : Cx) (t : TSet) : Prop :=
  ∀ (pins : List (Addr × Obj)) (s : Shared) (σ : St) (H : Hp) (o i v : V) (ov iv u : Value) (Q : Hp → Prop), Inv X pins σ H s → RelV o ov → RelV i iv → RelV v u → t o i v H Q →
    wpAny (model X.prog X.w) X.A (setItem ov iv u) (fun _ s' => ∃ H', Inv X pins σ H' s' ∧ Q H') X.xe s
section
variable {X : Cx} {pos : Pos}
def gName (i : Nat) : TG := fun v σ H Q => Q (σ.set i (some v)) H
theorem pg_name {i : Nat} {x : Str} (hN : X.N.Nodup) (hi : X.N[i]? = some x) (hx : Loc X.env.scope x) (hf : X.fn x = true ∨ X.env.scope.names.lookup x = some .local := by first | exact .inl rfl | exact .inr rfl | assumption) : PG X (.Name x pos) (gName i) := by
  intro pins s σ H v u Q I r h
  exact wpAny_assign_Name (store_ok I hN hi hx r (fun s' I' => ⟨_, H, I', h⟩) hf)
def gNil : TGs := fun vs σ H Q => vs = [] ∧ Q σ H
def gCons (t : TG) (u : TGs) : TGs := fun vs σ H Q => ∃ v r, vs = v :: r ∧ t v σ H fun σ' H' => u r σ' H' Q
theorem pgs_nil : PGs X [] gNil := by
  intro pins s σ H vs us Q I r h
  obtain ⟨e, h⟩ := h
  subst e
  cases r
  exact assignInOrder_nil ⟨σ, H, I, h⟩
theorem pgs_cons {e : Expr} {es : List Expr} {t : TG} {u : TGs} (h1 : PG X e t) (h2 : PGs X es u)
    (hs : (assignEach (e :: es) X.env).map (·.2) = assign e X.env :: (assignEach es X.env).map (·.2) := by rfl) : PGs X (e :: es) (gCons t u) := by
  intro pins s σ H vs us Q I r h
  obtain ⟨v, vr, e1, h⟩ := h
  subst e1
  cases r with
  | cons r rr =>
    rw [hs]
    refine assignInOrder_cons (thn (h1 pins s σ H _ _ _ I r h) fun _ s1 ⟨σ1, H1, I1, q1⟩ => ?_)
    exact h2 pins s1 σ1 H1 _ _ Q I1 rr q1
def gTup (K : PySem.W.Frag) (n : Nat) (t : TGs) : TG := fun v σ H Q => ∃ a xs, v = .ref a ∧ SqT K H a xs ∧ xs.length = n ∧ t xs σ H Q
theorem pg_tup {es : List Expr} {k : Nat} {t : TGs} {n : Nat} (hc : X.calm = true) (h : PGs X es t)
    (hn : (assignEach es X.env).length = n := by rfl) (hst : (assignEach es X.env).findIdx? (·.1) = none := by rfl) : PG X (.Tuple es k pos) (gTup X.K n t) := by
  intro pins s σ H v u Q I r hw
  obtain ⟨a, xs, e1, hq, hl, hw⟩ := hw
  subst e1
  cases r
  obtain ⟨its, rv, ht, hz⟩ := I.tuple hq
  refine assign_Tuple_tuple (I.ok.hd hc) ht (by simp [hn, ← hl, rv.length]) hst fun h' hx => ?_
  have I1 : Inv X pins σ H { s with heap := h' } := I.kept (t' := s.toks) fun b o e => hx b o (Nat.ne_of_lt (Heap.lt_size e)) e
  exact h pins _ σ H xs _ Q I1 (by simpa using rv) hw
def gSub (to ti : TE) (t : TSet) : TG := fun v σ H Q => to σ H fun o H1 => ti σ H1 fun i H2 => t o i v H2 fun H3 => Q σ H3
theorem pg_sub {o i : Expr} {to ti : TE} {t : TSet} (ho : PE X o to) (hi : PE X i ti) (hs : PSet X t)
    (ha : ∀ v, assign (.Subscript o i pos) X.env v = (do
      let ov ← holding [v] (eval o X.env)
      let iv ← holding [v, ov] (eval i X.env)
      standAt pos
      holding [v, ov, iv] (setItem ov iv v)
      release [v, ov, iv] []) := by intro _; rfl) : PG X (.Subscript o i pos) (gSub to ti t) := by
  intro pins s σ H v u Q I r h
  rw [ha]
  refine wpAny_bind (wpAny_holding (thn (ho pins s σ H _ I h) fun ov s1 ⟨x, H1, I1, r1, q1⟩ => ?_))
  refine wpAny_bind (wpAny_holding (thn (hi pins s1 σ H1 _ I1 q1) fun iv s2 ⟨y, H2, I2, r2, q2⟩ => ?_))
  refine wpAny_bind (wpAny_standAt (wpAny_bind (wpAny_holding (thn (hs pins s2 σ H2 x y v ov iv u _ I2 r1 r2 r q2) fun _ s3 ⟨H3, I3, q3⟩ => ?_))))
  exact wpAny_release ⟨σ, H3, I3, q3⟩
def tAsg (te : TE) (g : TG) : TS := fun D σ H => te σ H fun x H1 => g x σ H1 D.nx
theorem ps_asg {tg e : Expr} {te : TE} {g : TG} (he : PE X e te) (hg : PG X tg g) (hs : swapsWithSole [tg] e pos.line X.env = pure false := by rfl) (hw : swappedStores [tg] e X.env = pure none := by rfl)
    (h1 : (assignEach [tg] X.env).map (·.2) = [assign tg X.env] := by rfl) : PS X (.Assign [tg] e pos) (tAsg te g) := by
  intro pins s σ H D I h
  refine wpAny_Assign_stores (thn (he pins s σ H _ I h) fun v s1 ⟨x, H1, I1, r1, q1⟩ => ?_) hs hw
  rw [h1]
  exact thn (hg pins s1 σ H1 x v _ I1 r1 q1) fun _ s2 q => q
theorem ps_set {i : Nat} {x : Str} {e : Expr} {te : TE} {pos' : Pos} (hN : X.N.Nodup) (hi : X.N[i]? = some x) (hx : Loc X.env.scope x) (he : PE X e te) (hs : swapsWith e (some (.Name x pos')) pos.line X.env = pure false := by rfl) (hf : X.fn x = true ∨ X.env.scope.names.lookup x = some .local := by first | exact .inl rfl | exact .inr rfl | assumption) :
    PS X (.Assign [.Name x pos'] e pos) (tAsg te (gName i)) := by
  intro pins s σ H D I h
  refine wpAny_Assign_Name (thn (he pins s σ H _ I h) fun v s1 ⟨y, H1, I1, r1, q1⟩ => ?_) hs
  exact store_ok I1 hN hi hx r1 (fun s2 I2 => ⟨_, H1, I2, q1⟩) hf
def tPar (i j : Nat) (ta : TA) : TS := fun D σ H => ta σ H fun vs H1 => ∃ v w, vs = [v, w] ∧ D.nx ((σ.set i (some v)).set j (some w)) H1
theorem ps_par {i j : Nat} {x y : Str} {a b : Expr} {ta : TA} {px py pt : Pos} {kt k2 pt2} (hc : X.calm = true) (hN : X.N.Nodup) (hi : X.N[i]? = some x) (hj : X.N[j]? = some y) (hij : i ≠ j)
    (hx : X.env.scope.names.lookup x = some .local) (hy : X.env.scope.names.lookup y = some .local) (ha : PA X [a, b] ta)
    (hw : swappedStores [.Tuple [.Name x px, .Name y py] kt pt] (.Tuple [a, b] k2 pt2) X.env = pure (some [x, y]))
    (hs : swapsWithSole [.Tuple [.Name x px, .Name y py] kt pt] (.Tuple [a, b] k2 pt2) pos.line X.env = pure false := by rfl) :
    PS X (.Assign [.Tuple [.Name x px, .Name y py] kt pt] (.Tuple [a, b] k2 pt2) pos) (tPar i j ta) := by
  intro pins s σ H D I h
  rw [exec_Assign_arm]
  refine wpAny_bind (wpAny_standAt ?_)
  rw [hs]
  refine wpAny_bind (wpAny_pure ?_)
  rw [if_neg (by decide)]
  refine wpAny_bind (Tuple_ (thn (ha _ pins s σ H _ I h) fun us s1 ⟨vs, H1, I1, r1, q1⟩ => ?_))
  obtain ⟨v, w, e1, q1⟩ := q1
  subst e1
  obtain ⟨u1, u2, rfl, rv, rw'⟩ : ∃ u1 u2, us = [u1, u2] ∧ RelV v u1 ∧ RelV w u2 := by
    cases r1 with
    | cons p q =>
      cases q with
      | cons p' q' =>
        cases q'
        exact ⟨_, _, rfl, p, p'⟩
  refine wpAny_newObj_type ?_ (by show 2 ≤ sizeLine; decide)
  have I2 : Inv X pins σ H1 { s1 with heap := s1.heap.push { cls := .type "tuple", data := .seq [u1, u2].toArray } } := I1.kept (t' := s1.toks) fun b o e => Heap.get?_push_of_some _ e
  rw [hw]
  refine wpAny_bind (wpAny_pure ?_)
  show wpAny (model X.prog X.w) X.A (do rule "assign.swapped-stores"; let items ← unpackItems (.ref s1.heap.objs.size) 2 none; assignInOrder [fun v => bindName X.env y v, fun v => bindName X.env x v] items.reverse; pure Flow.next) _ _ _
  refine wpAny_bind (wpAny_rule (wpAny_bind (unpackItems_tuple (items := #[u1, u2]) (I.ok.hd hc) (IsTup.new s1.heap _) fun h' hx' => ?_)))
  have I3 := I2.kept (h' := h') (t' := s1.toks) fun b o e => hx' b o (Nat.ne_of_lt (Heap.lt_size e)) e
  show wpAny _ _ (assignInOrder [fun v => bindName X.env y v, fun v => bindName X.env x v] [u2, u1] >>= fun _ => pure Flow.next) _ _ _
  refine wpAny_bind (assignInOrder_cons (wpAny_bindName (store_ok I3 hN hj (.inl hy) rw' (fun s2 I4 => ?_) (.inr hy))))
  refine assignInOrder_cons (wpAny_bindName (store_ok I4 hN hi (.inl hx) rv (fun s3 I5 => assignInOrder_nil (wpAny_pure ?_)) (.inr hx)))
  rw [List.set_comm _ _ (Ne.symm hij)] at I5
  exact ⟨_, H1, I5, q1⟩
end
section
variable {X : Cx} {pos : Pos}
def tWhile (c : TT) (tb : TS) : TS := fun D σ H => ∃ W : Nat → St → Hp → Prop, (∃ m, W m σ H) ∧ ∀ m σ H, W m σ H →
  c σ H fun b H1 => if b = true then ∃ N : St → Hp → Prop, (∀ σ' H', N σ' H' → ∃ m', m' < m ∧ W m' σ' H') ∧ tb { D with nx := N, ct := N, bk := D.nx } σ H1 else D.nx σ H1
theorem ps_while {c : Expr} {body : List Stmt} {tc : TT} {tb : TS} (hp : PassesOwn (model X.prog X.w) X.A X.env X.xe) (hc : PT X c tc) (hb : PSs X body tb) : PS X (.While c body [] pos) (tWhile tc tb) := by
  intro pins s σ H D I h
  obtain ⟨W, ⟨m0, w0⟩, turn⟩ := h
  refine wpAny_While (codeAny_whileLoop (fun n s' => ∃ σ' H', Inv X pins σ' H' s' ∧ W n σ' H') ?_ m0 ⟨σ, H, I, w0⟩)
  rintro n s1 ⟨σ1, H1, I1, w1⟩
  refine wpAny_passesOwn hp (thn (hc pins s1 σ1 H1 _ I1 (turn n σ1 H1 w1)) fun b s2 ⟨H2, I2, q2⟩ => ?_)
  cases b with
  | true =>
    obtain ⟨N, hN, q2⟩ := q2
    rw [if_pos rfl]
    refine wpAny_passesOwn hp (thn (hb pins s2 σ1 H2 _ I2 q2) fun f s3 q3 => ?_)
    cases f with
    | next =>
      obtain ⟨σ3, H3, I3, n3⟩ := q3
      obtain ⟨m', hm, w3⟩ := hN σ3 H3 n3
      exact ⟨m', hm, σ3, H3, I3, w3⟩
    | cont =>
      obtain ⟨σ3, H3, I3, n3⟩ := q3
      obtain ⟨m', hm, w3⟩ := hN σ3 H3 n3
      exact ⟨m', hm, σ3, H3, I3, w3⟩
    | brk => exact q3
    | ret v => exact q3
  | false =>
    rw [if_neg Bool.false_ne_true]
    exact wpAny_execs_nil ⟨σ1, H2, I2, q2⟩
end
structure It where
  go : Nat → Hp → Prop
  yld : Nat → Hp → V → Hp → Prop
  stop : Nat → Hp → Prop
def FpOk (X : Cx) (pins : List (Addr × Obj)) (H : Hp) (b : Addr) : Prop :=
  H b = none ∧ b ≠ X.env.locals ∧ b ∉ X.fs ∧ (b ∈ X.ex ∨ X.s₀.heap.objs.size ≤ b) ∧ (∀ x c, X.env.cells.lookup x = some c → c ≠ b) ∧ ∀ p ∈ X.pn ++ pins, p.1 ≠ b
theorem Inv.fpOk {X : Cx} {pins : List (Addr × Obj)} {σ : St} {H H' : Hp} {s : Shared} {b : Addr} (I : Inv X pins σ H s) (hb : s.heap.objs.size ≤ b) (hn : H' b = none) : FpOk X pins H' b := by
  refine ⟨hn, Nat.ne_of_gt (Nat.lt_of_lt_of_le I.lt hb), I.nofs hb, .inr (Nat.le_trans I.sz hb), fun x c e z => ?_, fun p hp z => ?_⟩
  · obtain ⟨v, q⟩ := I.cell x c e
    exact absurd (Nat.lt_of_lt_of_le q.lt (by rw [z]; exact hb)) (Nat.lt_irrefl _)
  · exact absurd (Nat.lt_of_lt_of_le (Heap.lt_size (I.pin p hp).1) (by rw [z]; exact hb)) (Nat.lt_irrefl _)
structure Turn (P : Program) (w : World) (K : PySem.W.Frag) (tg : Expr) (J : It) (fp : List Addr) (it : Addr) (tn : Nat → Heap → Prop) : Prop where
  mem : it ∈ fp
  obj : ∀ i h, tn i h → ∀ b ∈ fp, ∃ o, h.get? b = some o ∧ ∀ v, o.data ≠ .cell v
  keep : ∀ i h h', tn i h → (∀ b ∈ fp, ∀ o, h.get? b = some o → h'.get? b = some o) → tn i h'
  item : ∀ (X : Cx), X.prog = P → X.w = w → X.K = K → X.calm = true → ∀ (i : Nat) (pins : List (Addr × Obj)) (s : Shared) (σ : St) (H : Hp) (E : Value → Shared → Prop), Inv X pins σ H s → (∀ b ∈ fp, FpOk X pins H b) → tn i s.heap → J.go i H →
    wpAny (model P w) X.A (pyNext (.ref it)) (fun r s1 => ∃ u, r = some u ∧
      wpAny (model P w) X.A (letOwnedTupleGo tg (.ref it) u) (fun _ s2 => ∃ x H', Inv X pins σ H' s2 ∧ RelV x u ∧ J.yld i H x H' ∧ tn (i + 1) s2.heap ∧ ∀ b ∈ fp, H' b = none) E s1) E s
  done : ∀ (X : Cx), X.prog = P → X.w = w → X.K = K → X.calm = true → ∀ (i : Nat) (pins : List (Addr × Obj)) (s : Shared) (σ : St) (H : Hp) (E : Value → Shared → Prop), Inv X pins σ H s → (∀ b ∈ fp, FpOk X pins H b) → tn i s.heap → J.stop i H →
    wpAny (model P w) X.A (pyNext (.ref it)) (fun r s1 => r = none ∧ Inv X pins σ H s1) E s
  self : ∀ (A : Around) (i : Nat) (s : Shared) (Q : Value → Shared → Prop) (E : Value → Shared → Prop), tn i s.heap → Q (.ref it) s → wpAny (model P w) A (pyIter (.ref it)) Q E s
abbrev TI := St → Hp → (It → Hp → Prop) → Prop
def PIE (X : Cx) (pins : List (Addr × Obj)) (σ : St) (tg : Expr) (R : It → Hp → Prop) (itv : Value) (s2 : Shared) : Prop :=
  ∃ (it : Addr) (fp : List Addr) (tn : Nat → Heap → Prop) (J : It) (H' : Hp), itv = .ref it ∧ Inv X pins σ H' s2 ∧ Turn X.prog X.w X.K tg J fp it tn ∧ tn 0 s2.heap ∧ (∀ b ∈ fp, FpOk X pins H' b) ∧ R J H'
def PI (X : Cx) (tg iter : Expr) (wi : TI) : Prop :=
  ∀ (pins : List (Addr × Obj)) (s : Shared) (σ : St) (H : Hp) (R : It → Hp → Prop), Inv X pins σ H s → wi σ H R →
    wpAny (model X.prog X.w) X.A (eval iter X.env) (fun v s1 => wpAny (model X.prog X.w) X.A (pyIter v) (PIE X pins σ tg R) X.xe s1) X.xe s
theorem go_of {M : Model} {A : Around} {E : Value → Shared → Prop} {s : Shared} {tg : Expr} {it : Addr} {u : Value} {o : Obj} {n : String} {vs : Array Value} {Q : Unit → Shared → Prop} (ho : s.heap.get? it = some o) (hc : o.cls = .type n) (hd : o.data = .fields vs)
    (hn : ["enumerate", "zip", "dict_itemiterator", "dict_reverseitemiterator", "odict_iterator", "itertools.zip_longest", "itertools.pairwise"].contains n = false) (hQ : Q () s) : wpAny M A (letOwnedTupleGo tg (.ref it) u) Q E s := by
  unfold letOwnedTupleGo
  cases tg <;> first
    | exact wpAny_pure hQ
    | (cases u <;> first
        | exact wpAny_pure hQ
        | (refine wpAny_bind (wpAny_load ho ?_)
           rw [hc, hd]
           show wpAny M A (if (["enumerate", "zip", "dict_itemiterator", "dict_reverseitemiterator", "odict_iterator", "itertools.zip_longest", "itertools.pairwise"].contains n && vs[0]? == some (rawInt _)) = true then _ else _) Q E s
           rw [if_neg (by intro h; rw [hn, Bool.false_and] at h; cases h)]
           exact wpAny_pure hQ))
def Itl (K : PySem.W.Frag) (a : Addr) : It :=
  ⟨fun i H => ∃ xs x, SqL K H a xs ∧ xs[i]? = some x, fun i H x H' => H' = H ∧ ∀ xs, SqL K H a xs → xs[i]? = some x, fun i H => ∃ xs, SqL K H a xs ∧ xs.length ≤ i⟩
def Itt (K : PySem.W.Frag) (a : Addr) : It :=
  ⟨fun i H => ∃ xs x, SqT K H a xs ∧ xs[i]? = some x, fun i H x H' => H' = H ∧ ∀ xs, SqT K H a xs → xs[i]? = some x, fun i H => ∃ xs, SqT K H a xs ∧ xs.length ≤ i⟩
def Itr (lo : Int) (n : Nat) : It := ⟨fun i _ => i < n, fun i H x H' => H' = H ∧ x = .int (lo + i), fun i _ => n ≤ i⟩
theorem turn_list {P : Program} {w : World} {K : PySem.W.Frag} {tg : Expr} (a it : Addr) : Turn P w K tg (Itl K a) [it] it (fun i h => h.IsListIter it a i) where
  mem := by simp
  obj := fun i h st b hb => by
    have e : b = it := by simpa using hb
    subst e
    obtain ⟨o, e, c, d⟩ := st
    exact ⟨o, e, fun v z => by rw [d] at z; cases z⟩
  keep := fun i h h' st k => st.at fun o e => k it (by simp) o e
  item := by
    intro X hP hw hK hc i pins s σ H E I hf st hg
    subst hP hw hK
    obtain ⟨xs, x, hq, hx⟩ := hg
    obtain ⟨its, rv, p, hz⟩ := I.list hq
    obtain ⟨u, hu, ru⟩ := rv.get hx
    obtain ⟨f0, f1, f2, f3, f4, f5⟩ := hf it (by simp)
    refine wpAny_pyNext_list_item st p.isList (x := u) (by simpa using hu) fun h' st' sb => ?_
    have I1 : Inv X pins σ H { s with heap := h' } := I.turned (t' := s.toks) (fun b o hb e => (sb.2 b hb).trans e) f0 f1 f3 f4 f5
    obtain ⟨o, e, c, d⟩ := id st'
    exact ⟨u, rfl, go_of (s := { s with heap := h' }) e c d (by decide) ⟨x, H, I1, ru, ⟨rfl, fun ys hy => by rw [I.list_inj hy hq]; exact hx⟩, st', fun b hb => (hf b hb).1⟩⟩
  done := by
    intro X hP hw hK hc i pins s σ H E I hf st hg
    subst hP hw hK
    obtain ⟨xs, hq, hx⟩ := hg
    obtain ⟨its, rv, p, hz⟩ := I.list hq
    obtain ⟨f0, f1, f2, f3, f4, f5⟩ := hf it (by simp)
    have hl := rv.length
    exact wpAny_pyNext_list_end (I.ok.hd hc) st p.isList (by simp; omega) fun h' eb => ⟨rfl, I.turned (t' := s.toks) (fun b o hb e => eb b o hb e) f0 f1 f3 f4 f5⟩
  self := fun _ _ _ _ _ st h => wpAny_pyIter_listiter st h
theorem turn_tuple {P : Program} {w : World} {K : PySem.W.Frag} {tg : Expr} (a it : Addr) : Turn P w K tg (Itt K a) [it] it (fun i h => h.IsTupleIter it a i) where
  mem := by simp
  obj := fun i h st b hb => by
    have e : b = it := by simpa using hb
    subst e
    obtain ⟨o, e, c, d⟩ := st
    exact ⟨o, e, fun v z => by rw [d] at z; cases z⟩
  keep := fun i h h' st k => st.at fun o e => k it (by simp) o e
  item := by
    intro X hP hw hK hc i pins s σ H E I hf st hg
    subst hP hw hK
    obtain ⟨xs, x, hq, hx⟩ := hg
    obtain ⟨its, rv, p, hz⟩ := I.tuple hq
    obtain ⟨u, hu, ru⟩ := rv.get hx
    obtain ⟨f0, f1, f2, f3, f4, f5⟩ := hf it (by simp)
    refine wpAny_pyNext_tuple_item st (show s.heap.IsTuple a its.toArray from p) (x := u) (by simpa using hu) fun h' st' sb => ?_
    have I1 : Inv X pins σ H { s with heap := h' } := I.turned (t' := s.toks) (fun b o hb e => (sb.2 b hb).trans e) f0 f1 f3 f4 f5
    obtain ⟨o, e, c, d⟩ := id st'
    exact ⟨u, rfl, go_of (s := { s with heap := h' }) e c d (by decide) ⟨x, H, I1, ru, ⟨rfl, fun ys hy => by rw [I.tuple_inj hy hq]; exact hx⟩, st', fun b hb => (hf b hb).1⟩⟩
  done := by
    intro X hP hw hK hc i pins s σ H E I hf st hg
    subst hP hw hK
    obtain ⟨xs, hq, hx⟩ := hg
    obtain ⟨its, rv, p, hz⟩ := I.tuple hq
    obtain ⟨f0, f1, f2, f3, f4, f5⟩ := hf it (by simp)
    have hl := rv.length
    exact wpAny_pyNext_tuple_end (I.ok.hd hc) st (show s.heap.IsTuple a its.toArray from p) (by simp; omega) fun h' eb => ⟨rfl, I.turned (t' := s.toks) (fun b o hb e => eb b o hb e) f0 f1 f3 f4 f5⟩
  self := fun _ _ _ _ _ st h => wpAny_pyIter_tupleiter st h
theorem turn_range {P : Program} {w : World} {K : PySem.W.Frag} {tg : Expr} (it : Addr) (lo : Int) (n : Nat) : Turn P w K tg (Itr lo n) [it] it (fun i h => IsRangeIter h it (lo + (i : Nat) * 1) ((n : Int) - (i : Nat)) 1) where
  mem := by simp
  obj := fun i h st b hb => by
    have e : b = it := by simpa using hb
    subst e
    exact ⟨_, st, fun v z => by
      have z' : Data.fields _ = Data.cell v := z
      cases z'⟩
  keep := fun i h h' st k => k it (by simp) _ st
  item := by
    intro X hP hw hK hc i pins s σ H E I hf st hg
    subst hP hw hK
    obtain ⟨f0, f1, f2, f3, f4, f5⟩ := hf it (by simp)
    have W := Walks.range (prog := X.prog) (w := X.w) (I.ok.hd hc) it lo 1 n
    refine W.item i s _ _ hg st fun v h' tk hv st' kk => ?_
    obtain ⟨t, rfl⟩ := hv
    have I1 : Inv X pins σ H { s with heap := h', toks := tk } := I.turned (fun b o hb e => kk b o (by simpa using hb) e) f0 f1 f3 f4 f5
    refine ⟨_, rfl, go_of (s := { s with heap := h', toks := tk }) (n := "range_iterator") st' rfl rfl (by decide) ⟨.int (lo + i), H, I1, ⟨t, ?_⟩, ⟨rfl, rfl⟩, st', fun b hb => (hf b hb).1⟩⟩
    rw [Int.mul_one]
  done := by
    intro X hP hw hK hc i pins s σ H E I hf st hg
    subst hP hw hK
    obtain ⟨f0, f1, f2, f3, f4, f5⟩ := hf it (by simp)
    exact wpAny_pyNext_range_end (I.ok.hd hc) st (by have : n ≤ i := hg; omega) fun h' eb => ⟨rfl, I.turned (t' := s.toks) (fun b o hb e => eb b o hb e) f0 f1 f3 f4 f5⟩
  self := fun _ _ _ _ _ st h => wpAny_pyIter_rangeiter st h
end L2
namespace L2
open PySem PySem.Spec PyProof.Rows
section
variable {X : Cx} {tg : Expr}
theorem range_it {pins : List (Addr × Obj)} {σ : St} {H : Hp} {s : Shared} {R : It → Hp → Prop} {E : Value → Shared → Prop} {lo hi : Int} {t u v : Tok} {tk : Nat} (I : Inv X pins σ H s) (h1 : -(2 ^ 62) ≤ lo) (h2 : lo < 2 ^ 62) (h3 : -(2 ^ 62) ≤ hi) (h4 : hi < 2 ^ 62)
    (q : R (Itr lo (hi - lo).toNat) H) : wpAny (model X.prog X.w) X.A (pyIter (.ref s.heap.objs.size)) (PIE X pins σ tg R) E { s with heap := s.heap.push { cls := .type "range", data := .fields #[.int lo t, .int hi u, .int 1 v] }, toks := tk } := by
  refine wpAny_pyIter_range (IsRange.new ..) (small_one h1 h2 h3 h4) ?_
  have I1 : Inv X pins σ H { s with heap := s.heap.push { cls := .type "range", data := .fields #[.int lo t, .int hi u, .int 1 v] }, toks := tk } := I.kept fun b o e => Heap.get?_push_of_some _ e
  refine ⟨(s.heap.push { cls := .type "range", data := .fields #[.int lo t, .int hi u, .int 1 v] }).objs.size, [(s.heap.push { cls := .type "range", data := .fields #[.int lo t, .int hi u, .int 1 v] }).objs.size], _, _, H, rfl,
    I1.kept (t' := tk) fun b o e => Heap.get?_push_of_some _ e, turn_range _ lo (hi - lo).toNat, ?_, fun b hb => ?_, q⟩
  · have e1 : lo + ((0 : Nat) : Int) * 1 = lo := by simp
    have e2 : (((hi - lo).toNat : Nat) : Int) - ((0 : Nat) : Int) = Builtin.Range.rangeSize lo hi 1 := by rw [rangeSize_one]; split <;> omega
    show IsRangeIter _ _ (lo + ((0 : Nat) : Int) * 1) ((((hi - lo).toNat : Nat) : Int) - ((0 : Nat) : Int)) 1
    rw [e1, e2]
    exact Heap.get?_push_size _ rfl
  · have e : b = (s.heap.push { cls := .type "range", data := .fields #[.int lo t, .int hi u, .int 1 v] }).objs.size := by simpa using hb
    subst e
    exact I1.fpOk (Nat.le_refl _) (I1.hok.fresh (Nat.le_refl _))
def iRng1 (ta : TA) : TI := fun σ H R => ta σ H fun vs H1 => ∃ j : Int, vs = [.int j] ∧ -(2 ^ 62) ≤ j ∧ j < 2 ^ 62 ∧ R (Itr 0 j.toNat) H1
theorem pi_range1 {a : Expr} {ta : TA} {p pos : Pos} (hg : Gl X "range") (hm : X.mg "range" = none) (ha : PA X [a] ta) (hs : starEach [a] X.env = [(false, eval a X.env)] := by rfl) : PI X tg (.Call (.Name "range" p) [a] [] pos) (iRng1 ta) := by
  intro pins s σ H R I h
  refine Call_ (ld_blt I hg hm boot_range (PyProof.Rows.callWith_type1 (thn (ha pos pins s σ H _ I h) fun us s1 ⟨vs, H1, I1, r1, q1⟩ => ?_) hs rfl))
  obtain ⟨j, e, q1, q2, q⟩ := q1
  subst e
  cases r1 with
  | cons r rr =>
    cases rr
    obtain ⟨t, rfl⟩ := r
    exact call_range_1 (range_it I1 (by omega) (by omega) q1 q2 (by simpa using q))
def tFor (wi : TI) (g : TG) (tb : TS) : TS := fun D σ H => wi σ H fun J H1 => ∃ W : Nat → Nat → St → Hp → Prop, (∃ m, W 0 m σ H1) ∧ ∀ i m σ H, W i m σ H →
  (J.stop i H ∧ D.nx σ H) ∨ (J.go i H ∧ ∃ N : St → Hp → Prop, (∀ σ' H', N σ' H' → ∃ m', m' < m ∧ W (i + 1) m' σ' H') ∧ ∀ x H', J.yld i H x H' → g x σ H' fun σ2 H2 => tb { D with nx := N, ct := N, bk := D.nx } σ2 H2)
def pinsAt (fp : List Addr) (h : Heap) : List (Addr × Obj) := fp.filterMap fun b => (h.get? b).map fun o => (b, o)
theorem mem_pinsAt {fp : List Addr} {h : Heap} {b : Addr} {o : Obj} (hb : b ∈ fp) (e : h.get? b = some o) : (b, o) ∈ pinsAt fp h := List.mem_filterMap.mpr ⟨b, hb, by rw [e]; rfl⟩
theorem of_pinsAt {fp : List Addr} {h : Heap} {p : Addr × Obj} (hp : p ∈ pinsAt fp h) : p.1 ∈ fp ∧ h.get? p.1 = some p.2 := by
  obtain ⟨b, hb, e⟩ := List.mem_filterMap.mp hp
  cases q : h.get? b with
  | none => rw [q] at e; cases e
  | some o =>
    rw [q] at e
    have e' : (b, o) = p := Option.some.inj e
    subst e'
    exact ⟨hb, q⟩
theorem Inv.pinned {pins : List (Addr × Obj)} {σ : St} {H : Hp} {s : Shared} {fp : List Addr} (I : Inv X pins σ H s) (hf : ∀ b ∈ fp, FpOk X pins H b) (ho : ∀ b ∈ fp, ∃ o, s.heap.get? b = some o ∧ ∀ v, o.data ≠ .cell v) : Inv X (pins ++ pinsAt fp s.heap) σ H s :=
  I.pins_of fun p hp => (List.mem_append.mp hp).elim (fun z => I.pin p (List.mem_append_right _ z)) fun z => by
    obtain ⟨hb, e⟩ := of_pinsAt z
    obtain ⟨f0, f1, f2, _⟩ := hf p.1 hb
    obtain ⟨o, e', d⟩ := ho p.1 hb
    rw [e] at e'; cases e'
    exact ⟨e, f0, f1, f2, d⟩
theorem Inv.unpinned {pins pl : List (Addr × Obj)} {σ : St} {H : Hp} {s : Shared} (I : Inv X (pins ++ pl) σ H s) : Inv X pins σ H s := I.pins_of fun p hp => I.pin p (List.mem_append_right _ (List.mem_append_left _ hp))
theorem ps_for {iter : Expr} {body : List Stmt} {wi : TI} {g : TG} {tb : TS} {pos : Pos} (hp : PassesOwn (model X.prog X.w) X.A X.env X.xe) (hc : X.calm = true) (hi : PI X tg iter wi) (hg : PG X tg g) (hb : PSs X body tb)
    (hs : ∀ x, foldedSetIterable iter X.env x = pure x := by intro _; rfl) : PS X (.For tg iter body [] pos) (tFor wi g tb) := by
  intro pins s σ H D I h
  refine wpAny_For (thn (hi pins s σ H _ I h) fun v s1 h1 => thn h1 fun itv s2 h2 => ?_) hs
  obtain ⟨it, fp, tn, J, H2, e, I2, T, st2, f2, W, ⟨m0, w0⟩, turn⟩ := h2
  subst e

  have stat : ∀ {H' : Hp}, (∀ b ∈ fp, H' b = none) → ∀ b ∈ fp, FpOk X pins H' b := fun hn b hb => ⟨hn b hb, (f2 b hb).2⟩
  refine codeAny_forLoop_any (fun n s' => ∃ i σ' H', Inv X pins σ' H' s' ∧ tn i s'.heap ∧ (∀ b ∈ fp, H' b = none) ∧ W i n σ' H') ?_ m0 ⟨0, σ, H2, I2, st2, fun b hb => (f2 b hb).1, w0⟩
  rintro n s3 ⟨i, σ3, H3, I3, st3, fr3, w3⟩
  rcases turn i n σ3 H3 w3 with ⟨stop, qn⟩ | ⟨go, N, hN, step⟩
  · refine wpAny_passesOwn hp (thn (T.done X rfl rfl rfl hc i pins s3 σ3 H3 X.xe I3 (stat fr3) st3 stop) fun r s4 ⟨hr, I4⟩ => ?_)
    subst hr
    exact wpAny_execs_nil ⟨σ3, H3, I4, qn⟩
  · refine wpAny_passesOwn hp (thn (T.item X rfl rfl rfl hc i pins s3 σ3 H3 X.xe I3 (stat fr3) st3 go) fun r s4 ⟨u, hr, h4⟩ => ?_)
    subst hr
    refine wpAny_passesOwn hp (thn h4 fun _ s5 ⟨x, H5, I5, r5, y5, st5, fr5⟩ => ?_)
    have I5' := I5.pinned (stat fr5) (T.obj _ _ st5)
    refine wpAny_passesOwn hp (thn (hg _ s5 σ3 H5 x u _ I5' r5 (step x H5 y5)) fun _ s6 ⟨σ6, H6, I6, q6⟩ => ?_)
    refine wpAny_passesOwn hp (thn (hb _ s6 σ6 H6 _ I6 q6) fun f s7 q7 => ?_)
    have again : ∀ {σ7 : St} {H7 : Hp}, Inv X (pins ++ pinsAt fp s5.heap) σ7 H7 s7 → N σ7 H7 → ∃ m, m < n ∧ ∃ i σ' H', Inv X pins σ' H' s7 ∧ tn i s7.heap ∧ (∀ b ∈ fp, H' b = none) ∧ W i m σ' H' := fun {σ7 H7} I7 n7 => by
      obtain ⟨m', hm, w7⟩ := hN σ7 H7 n7
      refine ⟨m', hm, i + 1, σ7, H7, I7.unpinned, T.keep _ _ _ st5 fun b hb o e => (I7.pin (b, o) (List.mem_append_right _ (List.mem_append_right _ (mem_pinsAt hb e)))).1, fun b hb => ?_, w7⟩
      obtain ⟨o, e, d⟩ := T.obj _ _ st5 b hb
      exact (I7.pin (b, o) (List.mem_append_right _ (List.mem_append_right _ (mem_pinsAt hb e)))).2.1
    cases f with
    | next => obtain ⟨σ7, H7, I7, n7⟩ := q7; exact again I7 n7
    | cont => obtain ⟨σ7, H7, I7, n7⟩ := q7; exact again I7 n7
    | brk => obtain ⟨σ7, H7, I7, q7⟩ := q7; exact ⟨σ7, H7, I7.unpinned, q7⟩
    | ret v => obtain ⟨x7, σ7, H7, I7, r7, q7⟩ := q7; exact ⟨x7, σ7, H7, I7.unpinned, r7, q7⟩
end
end L2
namespace L2
open PySem PySem.Spec PyProof.Rows
abbrev R2 := V → V → Hp → VK → Prop
def OpR (X : Cx) (f : Value → Value → Sem Value) (r : R2) : Prop :=
  ∀ (pins : List (Addr × Obj)) (s : Shared) (σ : St) (H : Hp) (x y : V) (v u : Value) (Q : VK), Inv X pins σ H s → RelV x v → RelV y u → r x y H Q →
    wpAny (model X.prog X.w) X.A (f v u) (EP X pins σ Q) X.xe s
def UnR (X : Cx) (f : Value → Sem Value) (r : V → Hp → VK → Prop) : Prop :=
  ∀ (pins : List (Addr × Obj)) (s : Shared) (σ : St) (H : Hp) (x : V) (v : Value) (Q : VK), Inv X pins σ H s → RelV x v → r x H Q →
    wpAny (model X.prog X.w) X.A (f v) (EP X pins σ Q) X.xe s
def CallR (X : Cx) (f : Value) (r : List V → Hp → VK → Prop) : Prop :=
  ∀ (pins : List (Addr × Obj)) (s : Shared) (σ : St) (H : Hp) (xs : List V) (us : List Value) (Q : VK), Inv X pins σ H s → Vals xs us → r xs H Q →
    wpAny (model X.prog X.w) X.A (call f us) (EP X pins σ Q) X.xe s
def TruR (X : Cx) (r : V → Hp → (Bool → Hp → Prop) → Prop) : Prop :=
  ∀ (pins : List (Addr × Obj)) (s : Shared) (σ : St) (H : Hp) (x : V) (v : Value) (Q : Bool → Hp → Prop), Inv X pins σ H s → RelV x v → r x H Q →
    wpAny (model X.prog X.w) X.A (truthy v) (TP X pins σ Q) X.xe s
def tOp (r : R2) (ta tb : TE) : TE := fun σ H Q => ta σ H fun x H1 => tb σ H1 fun y H2 => r x y H2 Q
def tUn (r : V → Hp → VK → Prop) (ta : TE) : TE := fun σ H Q => ta σ H fun x H1 => r x H1 Q
def rI (C : Int → Int → Prop) (g : Int → Int → V) : R2 := fun x y H Q => ∃ i j, x = .int i ∧ y = .int j ∧ C i j ∧ Q (g i j) H
def rI0 (g : Int → Int → V) : R2 := fun x y H Q => ∃ i j, x = .int i ∧ y = .int j ∧ Q (g i j) H
def rU (g : Int → V) : V → Hp → VK → Prop := fun x H Q => ∃ i, x = .int i ∧ Q (g i) H
section
variable {X : Cx} {a b c : Expr} {ta tb tc : TE} {pos : Pos}
theorem binT (ha : PE X a ta) (hb : PE X b tb) {pins : List (Addr × Obj)} {s : Shared} {σ : St} {H : Hp} {R : V → V → Hp → Prop} (I : Inv X pins σ H s)
    (h : ta σ H fun x H1 => tb σ H1 fun y H2 => R x y H2) {Q : Value → Shared → Prop} {f : Value → Value → Sem Value}
    (hf : ∀ v u s2 x y H2, Inv X pins σ H2 s2 → RelV x v → RelV y u → R x y H2 → wpAny (model X.prog X.w) X.A (f v u) Q X.xe s2) :
    wpAny (model X.prog X.w) X.A (eval a X.env) (fun v s₁ => wpAny (model X.prog X.w) X.A (eval b X.env) (fun u s₂ => wpAny (model X.prog X.w) X.A (f v u) Q X.xe s₂) X.xe s₁) X.xe s := by
  refine thn (ha pins s σ H _ I h) fun v s1 ⟨x, H1, I1, r1, q1⟩ => ?_
  refine thn (hb pins s1 σ H1 _ I1 q1) fun u s2 ⟨y, H2, I2, r2, q2⟩ => ?_
  exact hf v u s2 x y H2 I2 r1 r2 q2
theorem pe_op {op : Operator} {r : R2} (ho : OpR X (binaryOp op) r) (ha : PE X a ta) (hb : PE X b tb) : PE X (.BinOp a op b pos) (tOp r ta tb) := by
  intro pins s σ H Q I h
  exact wpAny_BinOp (binT ha hb I h fun v u s2 x y H2 I2 rx ry q => ho pins s2 σ H2 x y v u Q I2 rx ry q)
theorem pe_un {op : UnaryOp} {r : V → Hp → VK → Prop} (ho : UnR X (unaryOp op) r) (ha : PE X a ta) : PE X (.UnaryOp op a pos) (tUn r ta) := by
  intro pins s σ H Q I h
  exact UnaryOp_ (thn (ha pins s σ H _ I h) fun v s1 ⟨x, H1, I1, r1, q1⟩ => ho pins s1 σ H1 x v Q I1 r1 q1)
theorem opI {f : Value → Value → Sem Value} {C : Int → Int → Prop} {g : Int → Int → Int}
    (rule : ∀ (i j : Int) (t u : Tok) (s : Shared) (Q : Value → Shared → Prop) (E : Value → Shared → Prop), C i j → Q (.int (g i j) s.toks) { s with toks := s.toks + 1 } → wpAny (model X.prog X.w) X.A (f (.int i t) (.int j u)) Q E s) :
    OpR X f (rI C fun i j => .int (g i j)) := by
  intro pins s σ H x y v u Q I rx ry h
  obtain ⟨i, j, rfl, rfl, hc, q⟩ := h
  obtain ⟨t, rfl⟩ := rx
  obtain ⟨t', rfl⟩ := ry
  exact rule i j t t' s _ _ hc ⟨.int (g i j), H, I.tok _, ⟨_, rfl⟩, q⟩
theorem opI0 {f : Value → Value → Sem Value} {g : Int → Int → Int}
    (rule : ∀ (i j : Int) (t u : Tok) (s : Shared) (Q : Value → Shared → Prop) (E : Value → Shared → Prop), Q (.int (g i j) s.toks) { s with toks := s.toks + 1 } → wpAny (model X.prog X.w) X.A (f (.int i t) (.int j u)) Q E s) :
    OpR X f (rI0 fun i j => .int (g i j)) := by
  intro pins s σ H x y v u Q I rx ry h
  obtain ⟨i, j, rfl, rfl, q⟩ := h
  obtain ⟨t, rfl⟩ := rx
  obtain ⟨t', rfl⟩ := ry
  exact rule i j t t' s _ _ ⟨.int (g i j), H, I.tok _, ⟨_, rfl⟩, q⟩
theorem opB0 {f : Value → Value → Sem Value} {g : Int → Int → Bool}
    (rule : ∀ (i j : Int) (t u : Tok) (s : Shared) (Q : Value → Shared → Prop) (E : Value → Shared → Prop), Q (.bool (g i j)) s → wpAny (model X.prog X.w) X.A (f (.int i t) (.int j u)) Q E s) :
    OpR X f (rI0 fun i j => .bl (g i j)) := by
  intro pins s σ H x y v u Q I rx ry h
  obtain ⟨i, j, rfl, rfl, q⟩ := h
  obtain ⟨t, rfl⟩ := rx
  obtain ⟨t', rfl⟩ := ry
  exact rule i j t t' s _ _ ⟨.bl (g i j), H, I, rfl, q⟩
def CPow (i j : Int) : Prop := 0 ≤ j ∧ j ≤ 1000000 ∧ i.natAbs < 2 ^ 64
theorem op_add : OpR X (binaryOp .Add) (rI0 fun i j => .int (i + j)) := opI0 fun _ _ _ _ _ _ _ q => add_int q
theorem op_pow : OpR X (binaryOp .Pow) (rI CPow fun i j => .int (i ^ j.toNat)) := opI fun _ _ _ _ _ _ _ hc q => pow_int_small hc.1 hc.2.1 hc.2.2 q
theorem unI {f : Value → Sem Value} {g : Int → Int}
    (rule : ∀ (i : Int) (t : Tok) (s : Shared) (Q : Value → Shared → Prop) (E : Value → Shared → Prop), Q (.int (g i) s.toks) { s with toks := s.toks + 1 } → wpAny (model X.prog X.w) X.A (f (.int i t)) Q E s) :
    UnR X f (rU fun i => .int (g i)) := by
  intro pins s σ H x v Q I rx h
  obtain ⟨i, rfl, q⟩ := h
  obtain ⟨t, rfl⟩ := rx
  exact rule i t s _ _ ⟨.int (g i), H, I.tok _, ⟨_, rfl⟩, q⟩
theorem un_neg : UnR X (unaryOp .USub) (rU fun i => .int (-i)) := unI fun _ _ _ _ _ q => neg_int q
end
def scal : V → V → Bool
  | .non, .non => true | .non, .int _ => true | .int _, .non => true | .non, .bl _ => true | .bl _, .non => true | .non, .str _ => true | .str _, .non => true
  | .int _, .int _ => true | .bl _, .bl _ => true | .str _, .str _ => true | .byt _, .byt _ => true
  | .int _, .str _ => true | .str _, .int _ => true | .bl _, .str _ => true | .str _, .bl _ => true
  | _, _ => false
def rEq : R2 := fun x y H Q => scal x y = true ∧ Q (.bl (decide (x = y))) H
def rNe : R2 := fun x y H Q => scal x y = true ∧ Q (.bl (!decide (x = y))) H
theorem dec_int {i j : Int} : decide (V.int i = V.int j) = (i == j) := by
  rw [Bool.eq_iff_iff]
  simp
theorem dec_bl {i j : Bool} : decide (V.bl i = V.bl j) = (i == j) := by
  rw [Bool.eq_iff_iff]
  simp
theorem dec_str {i j : Str} : decide (V.str i = V.str j) = (i == j) := by
  rw [Bool.eq_iff_iff]
  simp
theorem dec_byt {i j : Array UInt8} : decide (V.byt i = V.byt j) = (i.toList == j.toList) := by
  rw [Bool.eq_iff_iff]
  cases i
  cases j
  simp
section
variable {X : Cx} {a b c : Expr} {ta tb tc : TE} {pos : Pos}
theorem fin_bl {pins : List (Addr × Obj)} {σ : St} {H : Hp} {s : Shared} {Q : VK} {k k' : Bool} (I : Inv X pins σ H s) (q : Q (.bl k) H) (e : k = k') : EP X pins σ Q (.bool k') s := by
  subst e
  exact ⟨.bl k, H, I, rfl, q⟩
theorem op_eq : OpR X (compareOp .Eq) rEq := by
  intro pins s σ H x y v u Q I rx ry h
  obtain ⟨hs, q⟩ := h
  cases x with
  | non =>
    cases rx
    cases y with
    | non => cases ry; exact PySem.EqNone.eq_none_none (fin_bl I q (by simp))
    | bl j => cases ry; exact PySem.EqNone.eq_none_bool (fin_bl I q (by simp))
    | int j => obtain ⟨t', rfl⟩ := ry; exact PySem.EqNone.eq_none_int (fin_bl I q (by simp))
    | str j => obtain ⟨t', rfl⟩ := ry; exact PySem.EqNone.eq_none_str (fin_bl I q (by simp))
    | _ => exact absurd (show false = true from hs) Bool.false_ne_true
  | bl i =>
    cases rx
    cases y with
    | non => cases ry; exact PySem.EqNone.eq_bool_none (fin_bl I q (by simp))
    | bl j => cases ry; exact eq_bool (fin_bl I q dec_bl)
    | str j => obtain ⟨t', rfl⟩ := ry; exact PySem.EqMixed.eq_bool_str (fin_bl I q (by simp))
    | _ => exact absurd (show false = true from hs) Bool.false_ne_true
  | int i =>
    obtain ⟨t, rfl⟩ := rx
    cases y with
    | non => cases ry; exact PySem.EqNone.eq_int_none (fin_bl I q (by simp))
    | int j => obtain ⟨t', rfl⟩ := ry; exact eq_int (fin_bl I q dec_int)
    | str j => obtain ⟨t', rfl⟩ := ry; exact PySem.EqMixed.eq_int_str (fin_bl I q (by simp))
    | _ => exact absurd (show false = true from hs) Bool.false_ne_true
  | str i =>
    obtain ⟨t, rfl⟩ := rx
    cases y with
    | non => cases ry; exact PySem.EqNone.eq_str_none (fin_bl I q (by simp))
    | bl j => cases ry; exact PySem.EqMixed.eq_str_bool (fin_bl I q (by simp))
    | int j => obtain ⟨t', rfl⟩ := ry; exact PySem.EqMixed.eq_str_int (fin_bl I q (by simp))
    | str j => obtain ⟨t', rfl⟩ := ry; exact eq_str (fin_bl I q dec_str)
    | _ => exact absurd (show false = true from hs) Bool.false_ne_true
  | byt i =>
    obtain ⟨t, rfl⟩ := rx
    cases y with
    | byt j => obtain ⟨t', rfl⟩ := ry; exact PySem.W.eq_bytes (fin_bl I q dec_byt)
    | _ => exact absurd (show false = true from hs) Bool.false_ne_true
  | _ => cases y <;> exact absurd (show false = true from hs) Bool.false_ne_true
theorem op_ne : OpR X (compareOp .NotEq) rNe := by
  intro pins s σ H x y v u Q I rx ry h
  obtain ⟨hs, q⟩ := h
  cases x with
  | non =>
    cases rx
    cases y with
    | non => cases ry; exact PySem.EqNone.ne_none_none (fin_bl I q (by simp))
    | bl j => cases ry; exact PySem.EqNone.ne_none_bool (fin_bl I q (by simp))
    | int j => obtain ⟨t', rfl⟩ := ry; exact PySem.EqNone.ne_none_int (fin_bl I q (by simp))
    | str j => obtain ⟨t', rfl⟩ := ry; exact PySem.EqNone.ne_none_str (fin_bl I q (by simp))
    | _ => exact absurd (show false = true from hs) Bool.false_ne_true
  | bl i =>
    cases rx
    cases y with
    | non => cases ry; exact PySem.EqNone.ne_bool_none (fin_bl I q (by simp))
    | bl j => cases ry; exact ne_bool (fin_bl I q (congrArg not dec_bl))
    | str j => obtain ⟨t', rfl⟩ := ry; exact PySem.EqMixed.ne_bool_str (fin_bl I q (by simp))
    | _ => exact absurd (show false = true from hs) Bool.false_ne_true
  | int i =>
    obtain ⟨t, rfl⟩ := rx
    cases y with
    | non => cases ry; exact PySem.EqNone.ne_int_none (fin_bl I q (by simp))
    | int j => obtain ⟨t', rfl⟩ := ry; exact ne_int (fin_bl I q (congrArg not dec_int))
    | str j => obtain ⟨t', rfl⟩ := ry; exact PySem.EqMixed.ne_int_str (fin_bl I q (by simp))
    | _ => exact absurd (show false = true from hs) Bool.false_ne_true
  | str i =>
    obtain ⟨t, rfl⟩ := rx
    cases y with
    | non => cases ry; exact PySem.EqNone.ne_str_none (fin_bl I q (by simp))
    | bl j => cases ry; exact PySem.EqMixed.ne_str_bool (fin_bl I q (by simp))
    | int j => obtain ⟨t', rfl⟩ := ry; exact PySem.EqMixed.ne_str_int (fin_bl I q (by simp))
    | str j => obtain ⟨t', rfl⟩ := ry; exact ne_str (fin_bl I q (congrArg not dec_str))
    | _ => exact absurd (show false = true from hs) Bool.false_ne_true
  | byt i =>
    obtain ⟨t, rfl⟩ := rx
    cases y with
    | byt j => obtain ⟨t', rfl⟩ := ry; exact PySem.W.ne_bytes (fin_bl I q (congrArg not dec_byt))
    | _ => exact absurd (show false = true from hs) Bool.false_ne_true
  | _ => cases y <;> exact absurd (show false = true from hs) Bool.false_ne_true
theorem op_lt : OpR X (compareOp .Lt) (rI0 fun i j => .bl (decide (i < j))) := opB0 fun _ _ _ _ _ _ _ q => lt_int q
theorem op_gt : OpR X (compareOp .Gt) (rI0 fun i j => .bl (decide (j < i))) := opB0 fun _ _ _ _ _ _ _ q => gt_int q
theorem op_ge : OpR X (compareOp .GtE) (rI0 fun i j => .bl (decide (j ≤ i))) := opB0 fun _ _ _ _ _ _ _ q => ge_int q
theorem OpR.or {f : Value → Value → Sem Value} {r r' : R2} (h : OpR X f r) (h' : OpR X f r') : OpR X f (fun x y H Q => r x y H Q ∨ r' x y H Q) := by
  intro pins s σ H x y v u Q I rx ry q
  rcases q with q | q
  · exact h pins s σ H x y v u Q I rx ry q
  · exact h' pins s σ H x y v u Q I rx ry q
theorem nomark (b : Expr) {op : CmpOp} (h : op ≠ .In := by decide) (h2 : op ≠ .NotIn := by decide) : behindInMarks op b = false := by
  have e1 : (op == CmpOp.In) = false := by cases op <;> first | rfl | exact absurd rfl h
  have e2 : (op == CmpOp.NotIn) = false := by cases op <;> first | rfl | exact absurd rfl h2
  cases b <;> simp [behindInMarks, e1, e2]
theorem pe_cmpR {op : CmpOp} {r : R2} (ho : OpR X (compareOp op) r) (ha : PE X a ta) (hb : PE X b tb) (hm : behindInMarks op b = false) : PE X (.Compare a [op] [b] pos) (tOp r ta tb) := by
  intro pins s σ H Q I h
  exact wpAny_Compare1 (binT ha hb I h fun v u s2 x y H2 I2 rx ry q => ho pins s2 σ H2 x y v u Q I2 rx ry q) hm
def tTest (t : TE) : TT := fun σ H Q => t σ H fun x H' => ∃ k, x = .bl k ∧ Q k H'
theorem pt_cmpR {op : CmpOp} {r : R2} (ho : OpR X (compareOp op) r) (ha : PE X a ta) (hb : PE X b tb) (hm : behindInMarks op b = false) : PT X (.Compare a [op] [b] pos) (tTest (tOp r ta tb)) := by
  intro pins s σ H Q I h
  refine wpAny_isTrue_Compare1 (thn (ha pins s σ H _ I h) fun v s1 ⟨x, H1, I1, r1, q1⟩ => thn (hb pins s1 σ H1 _ I1 q1) fun u s2 ⟨y, H2, I2, r2, q2⟩ =>
    thn (ho pins s2 σ H2 x y v u _ I2 r1 r2 q2) fun c s3 ⟨z, H3, I3, r3, k, e, q3⟩ => ?_) hm
  subst e
  cases r3
  exact wpAny_truthy_bool ⟨H3, I3, q3⟩
def TruV (K : PySem.W.Frag) (x : V) (H : Hp) (k : Bool) : Prop :=
  match x with
  | .non => k = false
  | .bl b => k = b
  | .int i => k = (i != 0)
  | .str y => y.length ≤ sizeLine ∧ k = ((y.length : Int) != 0)
  | .byt y => y.size ≤ sizeLine ∧ k = ((y.size : Int) != 0)
  | .ref p => (∃ xs, SqL K H p xs ∧ k = !xs.isEmpty) ∨ (∃ xs, SqT K H p xs ∧ k = !xs.isEmpty) ∨ ∃ kvs, H p = some (.dK kvs) ∧ k = !kvs.isEmpty
  | _ => False
theorem isEmpty_kv {κ : Type} {kvs : List (κ × V)} {vs : List (κ × Value)} (r : KV kvs vs) : (!vs.isEmpty) = !kvs.isEmpty := by
  cases r <;> rfl
theorem isEmpty_of {xs : List V} {its : List Value} (r : Vals xs its) : (!its.toArray.isEmpty) = !xs.isEmpty := by
  cases r <;> simp
theorem line63 : (sizeLine : Nat) < 2 ^ 63 := by rw [sizeLine_eq]; decide
theorem tru_ok : TruR X (fun x H Q => ∃ k, TruV X.K x H k ∧ Q k H) := by
  intro pins s σ H x v Q I rx h
  obtain ⟨k, e, q⟩ := h
  have hl := line63
  have hs : sizeLine = 16777216 := sizeLine_eq
  cases x with
  | non =>
    cases rx
    have e' : k = false := e
    subst e'
    exact truthy_none ⟨H, I, q⟩
  | bl b =>
    cases rx
    have e' : k = b := e
    subst e'
    exact wpAny_truthy_bool ⟨H, I, q⟩
  | int i =>
    obtain ⟨t, rfl⟩ := rx
    have e' : k = (i != 0) := e
    subst e'
    exact PySem.P.truthy_int ⟨H, I, q⟩
  | str y =>
    obtain ⟨t, rfl⟩ := rx
    obtain ⟨hy, e'⟩ : y.length ≤ sizeLine ∧ k = ((y.length : Int) != 0) := e
    subst e'
    exact PySem.P.truthy_str (by omega) ⟨H, I.tok _, q⟩
  | byt y =>
    obtain ⟨t, rfl⟩ := rx
    obtain ⟨hy, e'⟩ : y.size ≤ sizeLine ∧ k = ((y.size : Int) != 0) := e
    subst e'
    exact PySem.W.truthy_bytes (by omega) ⟨H, I.tok _, q⟩
  | ref p =>
    cases rx
    have e' : (∃ xs, SqL X.K H p xs ∧ k = !xs.isEmpty) ∨ (∃ xs, SqT X.K H p xs ∧ k = !xs.isEmpty) ∨ ∃ kvs, H p = some (.dK kvs) ∧ k = !kvs.isEmpty := e
    rcases e' with ⟨xs, hx, e'⟩ | ⟨xs, hx, e'⟩ | ⟨kvs, hx, e'⟩
    · subst e'
      obtain ⟨its, r, pl, hz⟩ := I.list hx
      have hlen := r.length
      exact wpAny_truthy_list pl.isList (by simp only [List.size_toArray]; omega) ⟨H, I.tok _, by rw [isEmpty_of r]; exact q⟩
    · subst e'
      obtain ⟨its, r, pl, hz⟩ := I.tuple hx
      have hlen := r.length
      exact truthy_tuple pl (by simp only [List.size_toArray]; omega) ⟨H, I.tok _, by rw [isEmpty_of r]; exact q⟩
    · subst e'
      obtain ⟨hz, hS, vs, r, m⟩ : kvs.length ≤ sizeLine ∧ (p == sysModules) = false ∧ ∃ vs, KV kvs vs ∧ s.heap.DictOf (mixKind X.prog X.w) p vs := I.hok p _ hx
      have hlen : kvs.length = vs.length := Paired.length r
      exact wpAny_truthy_dict hS m (by omega) ⟨H, I.tok _, by rw [isEmpty_kv r]; exact q⟩
  | _ => exact (show False from e).elim
theorem pt_truth (ha : PE X a ta) (he : ∀ whole, isTrue a X.env whole = (do let v ← whole; standAt a.pos; holding [v] (truthy v))) :
    PT X a (fun σ H Q => ta σ H fun x H' => ∃ k, TruV X.K x H' k ∧ Q k H') := by
  intro pins s σ H Q I h
  exact isTrue_plain (thn (ha pins s σ H _ I h) fun v s1 ⟨x, H1, I1, r1, q1⟩ => tru_ok pins s1 σ H1 x v Q I1 r1 q1) (he _)
theorem op_add_str : OpR X (binaryOp .Add) (fun x y H Q => ∃ i j, x = .str i ∧ y = .str j ∧ i.length + j.length ≤ sizeLine ∧ Q (.str (i ++ j)) H) := by
  intro pins s σ H x y v u Q I rx ry h
  obtain ⟨i, j, rfl, rfl, hz, q⟩ := h
  obtain ⟨t, rfl⟩ := rx
  obtain ⟨t', rfl⟩ := ry
  exact add_str (fun t' tk => ⟨.str (i ++ j), H, I.tok _, ⟨_, rfl⟩, q⟩) hz
theorem vals1 {x : V} {us : List Value} (r : Vals [x] us) : ∃ u, us = [u] ∧ RelV x u := by
  cases r with
  | cons r1 r2 => cases r2; exact ⟨_, rfl, r1⟩
theorem vals2 {x y : V} {us : List Value} (r : Vals [x, y] us) : ∃ u w', us = [u, w'] ∧ RelV x u ∧ RelV y w' := by
  cases r with
  | cons r1 r2 =>
    cases r2 with
    | cons r3 r4 => cases r4; exact ⟨_, _, rfl, r1, r3⟩
theorem call_abs : CallR X (.builtin "abs") (fun xs H Q => ∃ i, xs = [.int i] ∧ Q (.int (if i < 0 then -i else i)) H) := by
  intro pins s σ H xs us Q I r h
  obtain ⟨i, rfl, q⟩ := h
  obtain ⟨u, rfl, t, rfl⟩ := vals1 r
  exact call_abs_int fun u tk => ⟨.int (if i < 0 then -i else i), H, I.tok _, ⟨_, rfl⟩, q⟩
def LenV (K : PySem.W.Frag) (x : V) (H : Hp) (n : Nat) : Prop :=
  match x with
  | .str y => y.length ≤ sizeLine ∧ n = y.length
  | .byt y => y.size ≤ sizeLine ∧ n = y.size
  | .ref p => (∃ xs, SqL K H p xs ∧ n = xs.length) ∨ ∃ xs, SqT K H p xs ∧ n = xs.length
  | _ => False
theorem call_len : CallR X (.builtin "len") (fun xs H Q => ∃ x n, xs = [x] ∧ LenV X.K x H n ∧ Q (.int n) H) := by
  intro pins s σ H xs us Q I r h
  obtain ⟨x, n, rfl, e, q⟩ := h
  obtain ⟨u, rfl, rx⟩ := vals1 r
  have hl := line63
  have hs : sizeLine = 16777216 := sizeLine_eq
  cases x with
  | str y =>
    obtain ⟨t, rfl⟩ := rx
    obtain ⟨hy, e'⟩ : y.length ≤ sizeLine ∧ n = y.length := e
    subst e'
    exact len_str (by omega) ⟨.int _, H, I.tok _, ⟨_, rfl⟩, q⟩
  | byt y =>
    obtain ⟨t, rfl⟩ := rx
    obtain ⟨hy, e'⟩ : y.size ≤ sizeLine ∧ n = y.size := e
    subst e'
    exact PySem.W.len_bytes (by omega) ⟨.int _, H, I.tok _, ⟨_, rfl⟩, q⟩
  | ref p =>
    cases rx
    have e' : (∃ xs, SqL X.K H p xs ∧ n = xs.length) ∨ ∃ xs, SqT X.K H p xs ∧ n = xs.length := e
    rcases e' with ⟨xs, hx, e'⟩ | ⟨xs, hx, e'⟩
    · subst e'
      obtain ⟨its, r', pl, hz⟩ := I.list hx
      have hlen := r'.length
      exact Calls.call_len_list pl.isList (by simp only [List.size_toArray]; omega) ⟨.int xs.length, H, I.tok _, ⟨_, by simp only [List.size_toArray]; rw [hlen]⟩, q⟩
    · subst e'
      obtain ⟨its, r', pl, hz⟩ := I.tuple hx
      have hlen := r'.length
      exact len_tuple pl (by simp only [List.size_toArray]; omega) ⟨.int xs.length, H, I.tok _, ⟨_, by simp only [List.size_toArray]; rw [hlen]⟩, q⟩
  | _ => exact (show False from e).elim
end
end L2
namespace L2
open PySem PySem.Spec PyProof.Rows
structure Room (k : Nat) (A : Around) : Prop where
  hd : A.handled = none
  dp : A.depth + 3 * k + 5 < recursionLimit
  un : A.units + 16 * k + 200 < cLine
theorem Room.mono {j k : Nat} {A : Around} (r : Room k A) (h : j ≤ k) : Room j A := ⟨r.hd, by have := r.dp; omega, by have := r.un; omega⟩
theorem Room.deeper {k : Nat} {A : Around} (r : Room (k + 1) A) (env : Env) : Room k (A.deeper env) :=
  ⟨r.hd, by have := r.dp; show A.depth + 1 + 3 * k + 5 < _; omega, by have := r.un; show A.units + 3 + 16 * k + 200 < _; omega⟩
theorem Room.in1 {k : Nat} {A : Around} (r : Room (k + 1) A) : Room k A.in1 :=
  ⟨r.hd, by have := r.dp; show A.depth + 3 * k + 5 < _; omega, by have := r.un; show A.units + 1 + 16 * k + 200 < _; omega⟩
theorem Room.depth {k : Nat} {A : Around} (r : Room k A) : A.depth < recursionLimit := by have := r.dp; omega
theorem Room.units {k : Nat} {A : Around} (r : Room k A) : A.units + 64 < cLine := by have := r.un; omega
def tNil : TA := fun _ H Q => Q [] H
def tCons (ta : TE) (tr : TA) : TA := fun σ H Q => ta σ H fun x H1 => tr σ H1 fun xs H2 => Q (x :: xs) H2
section
variable {X : Cx} {e : Expr} {es : List Expr} {te : TE} {t : TA} {pos : Pos}
theorem pa_nil : PA X [] tNil := fun _ _ _ _ H Q I h => Calls.spliced_nil ⟨[], H, I, .nil, h⟩
theorem pa_cons (ha : PE X e te) (hr : PA X es t) (hs : starEach (e :: es) X.env = (false, eval e X.env) :: starEach es X.env := by rfl) : PA X (e :: es) (tCons te t) := by
  intro pos pins s σ H Q I h
  rw [hs]
  show wpAny _ _ (spliced ((false, eval e X.env) :: backTo pos (starEach es X.env))) _ _ s
  refine Calls.spliced_cons (thn (ha pins s σ H _ I h) fun u s1 ⟨x, H1, I1, r1, q1⟩ => ?_)
  exact thn (hr pos pins s1 σ H1 _ I1 q1) fun us s2 ⟨xs, H2, I2, r2, q2⟩ => ⟨x :: xs, H2, I2, .cons r1 r2, q2⟩
def tTup (t : TA) : TE := fun σ H Q => t σ H fun xs H1 => xs.length ≤ sizeLine ∧ ∀ p, H1 p = none → Q (.ref p) (upd H1 p (.tup xs))
def tLst (t : TA) : TE := fun σ H Q => t σ H fun xs H1 => xs.length ≤ sizeLine ∧ ∀ p, H1 p = none → Q (.ref p) (upd H1 p (.lst xs))
theorem pe_tup {x1} (h : PA X es t) : PE X (.Tuple es x1 pos) (tTup t) := by
  intro pins s σ H Q I hq
  refine wpAny_Tuple_spliced (thn (h pos pins s σ H _ I hq) fun us s1 ⟨xs, H1, I1, r, z, q⟩ => ⟨by rw [← r.length]; exact z, ?_⟩)
  have hf : H1 s1.heap.objs.size = none := I1.hok.fresh (Nat.le_refl _)
  refine ⟨.ref s1.heap.objs.size, upd H1 s1.heap.objs.size (.tup xs), I1.laid (t' := s1.toks) (fun b u e => Heap.get?_push_of_some _ e) (Nat.le_refl _) ?_, rfl, q _ hf⟩
  exact ⟨z, us, r, ⟨_, Heap.get?_push_size _ rfl, rfl, _, rfl⟩⟩
theorem pe_lst (h : PA X es t) : PE X (.List es pos) (tLst t) := by
  intro pins s σ H Q I hq
  refine wpAny_List_spliced (thn (h pos pins s σ H _ I hq) fun us s1 ⟨xs, H1, I1, r, z, q⟩ => ⟨by rw [← r.length]; exact z, ?_⟩)
  have hf : H1 s1.heap.objs.size = none := I1.hok.fresh (Nat.le_refl _)
  refine ⟨.ref s1.heap.objs.size, upd H1 s1.heap.objs.size (.lst xs), I1.laid (t' := s1.toks) (fun b u e => Heap.get?_push_of_some _ e) (Nat.le_refl _) ?_, rfl, q _ hf⟩
  exact ⟨z, us, 0, r, Heap.get?_push_size _ rfl⟩
end
abbrev Sp := List V → Hp → VK → XK → Prop
abbrev CXT := List Env → Hp → Shared → XK → Value → Shared → Prop
structure Env0 (P : Program) (w : World) (K : PySem.W.Frag) (mg : Str → Option Value) (base : Heap) (A : Around) (outer : List Env) (s : Shared) (H : Hp) : Prop where
  frames : A.frames = some outer
  mod : Mod K mg base
  bs : ∀ b o, base.get? b = some o → s.heap.get? b = some o ∧ H b = none
  bsz : base.objs.size ≤ s.heap.objs.size
  funs : s.heap.FunFrames base outer
  frf : ∀ b ∈ frs outer, H b = none
  hok : HOk P w H s.heap
  bare : AllBare s.gens
def CE (outer : List Env) (P : Program) (w : World) (H : Hp) (s : Shared) (Q : VK) (u : Value) (s' : Shared) : Prop :=
  ∃ v H', s'.os = s.os ∧ AllBare s'.gens ∧ Un (frs outer) [] H H' s.heap s'.heap ∧ HOk P w H' s'.heap ∧ RelV v u ∧ Q v H'
def CR (CX : CXT) (outer : List Env) (P : Program) (w : World) (H : Hp) (s : Shared) (Q : VK) (E : XK) (r : Result) (s' : Shared) : Prop :=
  match r with
  | .ok (.ret u) => CE outer P w H s Q u s'
  | .ok _ => False
  | .error e => CX outer H s E e s'
structure FnOk (P : Program) (w : World) (K : PySem.W.Frag) (mg : Str → Option Value) (base : Heap) (CX : CXT) (k : Nat) (f : Addr) (fd : FuncData) (ps : List Str) (sp : Sp) : Prop where
  len : ∀ vs H Q E, sp vs H Q E → vs.length = ps.length
  run : ∀ (A : Around) (outer : List Env) (s : Shared) (H : Hp) (args : Args) (us : List Value) (vs : List V) (Q : VK) (E : XK), Room k A → Env0 P w K mg base A outer s H → BindsTo s fd args (ps.zip us) → Vals vs us → sp vs H Q E →
    codeAny (model P w) A (.call (.ref f) args) (CR CX outer P w H s Q E) s
theorem FnOk.mono {P : Program} {w : World} {K : PySem.W.Frag} {mg : Str → Option Value} {base : Heap} {CX : CXT} {j k : Nat} {f : Addr} {fd : FuncData} {ps : List Str} {sp : Sp} (F : FnOk P w K mg base CX j f fd ps sp) (h : j ≤ k) :
    FnOk P w K mg base CX k f fd ps sp := ⟨F.len, fun A outer s H args us vs Q E hr => F.run A outer s H args us vs Q E (hr.mono h)⟩
theorem FnOk.imp {P : Program} {w : World} {K : PySem.W.Frag} {mg : Str → Option Value} {base : Heap} {CX : CXT} {k : Nat} {f : Addr} {fd : FuncData} {ps : List Str} {sp sp' : Sp} (F : FnOk P w K mg base CX k f fd ps sp)
    (h : ∀ vs H Q E, sp' vs H Q E → sp vs H Q E) : FnOk P w K mg base CX k f fd ps sp' :=
  ⟨fun vs H Q E q => F.len vs H Q E (h _ _ _ _ q), fun A outer s H args us vs Q E hr he hb hv hs => F.run A outer s H args us vs Q E hr he hb hv (h _ _ _ _ hs)⟩
theorem Env0.in1 {P : Program} {w : World} {K : PySem.W.Frag} {mg : Str → Option Value} {base : Heap} {A : Around} {outer : List Env} {s : Shared} {H : Hp} (e : Env0 P w K mg base A outer s H) :
    Env0 P w K mg base A.in1 outer s H := ⟨e.frames, e.mod, e.bs, e.bsz, e.funs, e.frf, e.hok, e.bare⟩
section
variable {X : Cx} {pins : List (Addr × Obj)} {σ : St} {H : Hp} {s s' : Shared}
theorem Inv.env0 (I : Inv X pins σ H s) : Env0 X.prog X.w X.K X.mg X.base X.A X.stack s H :=
  ⟨I.ok.frames, I.ok.mod, I.bs, Nat.le_trans I.ok.bsz I.sz, I.stack, I.stkFree, I.hok, I.bare⟩
theorem Inv.after {Q : VK} {u : Value} (I : Inv X pins σ H s) (h : CE X.stack X.prog X.w H s Q u s') : EP X pins σ Q u s' := by
  obtain ⟨v, H', os, bare, un, hok, r, q⟩ := h
  obtain ⟨hh, g, d, t, os'⟩ := s'
  obtain rfl : os' = s.os := os
  exact ⟨v, H', I.call (h' := hh) (g' := g) (d' := d) (t' := t) (ch := []) un hok bare (fun b z => absurd z (by simp)), r, q⟩
end
def tCall (sp : Sp) (dvs : List V) (E : XK) (t : TA) : TE := fun σ H Q => t σ H fun vs H1 => sp (vs ++ dvs) H1 Q E
def Binds (K : PySem.W.Frag) (fd : FuncData) (ps : List Str) (ds : List Value) : Prop :=
  ∀ (s : Shared) (us : List Value), K.In s.heap → (us ++ ds).length = ps.length → BindsTo s fd ⟨us, []⟩ (ps.zip (us ++ ds))
theorem Binds.all {K : PySem.W.Frag} {fd : FuncData} {ps : List Str} (h : ∀ us : List Value, us.length = ps.length → bindArgs fd ⟨us, []⟩ = pure (ps.zip us)) : Binds K fd ps [] := fun s us _ hl => by
  rw [List.append_nil] at hl ⊢
  exact .of_eq (h us hl)
def Passes (CX : CXT) (X : Cx) (E : XK) : Prop := ∀ (pins : List (Addr × Obj)) (σ : St) (H : Hp) (s : Shared) (e : Value) (s' : Shared), Inv X pins σ H s → CX X.stack H s E e s' → X.xe e s'
section
variable {X : Cx} {CX : CXT} {k : Nat} {f C : Addr} {fd : FuncData} {ps : List Str} {sp : Sp} {dvs : List V} {ds : List Value} {E : XK} {x m : Str} {p pos apos : Pos} {e o : Expr} {es : List Expr} {ta : TE} {t : TA}
theorem run_fn {pins : List (Addr × Obj)} {σ : St} {H : Hp} {s : Shared} {Q : VK} {us : List Value} {vs : List V} (F : FnOk X.prog X.w X.K X.mg X.base CX k f fd ps sp) (hr : Room k X.A) (hb : Binds X.K fd ps ds) (hd : Vals dvs ds) (hx : Passes CX X E)
    (I : Inv X pins σ H s) (r : Vals vs us) (h : sp (vs ++ dvs) H Q E) : wpAny (model X.prog X.w) X.A (call (.ref f) us) (EP X pins σ Q) X.xe s := by
  have r2 : Vals (vs ++ dvs) (us ++ ds) := r.append hd
  have hl : (us ++ ds).length = ps.length := by rw [← r2.length]; exact F.len _ _ _ _ h
  refine wpAny_call (codeAny_mono (F.run X.A X.stack s H ⟨us, []⟩ (us ++ ds) (vs ++ dvs) Q E hr I.env0 (hb s us I.kIn hl) r2 h) fun r s' hq => ?_)
  cases r with
  | error e => exact hx pins σ H s e s' I hq
  | ok fl =>
    cases fl with
    | ret u => exact I.after hq
    | next => exact False.elim hq
    | brk => exact False.elim hq
    | cont => exact False.elim hq
theorem pe_call (F : FnOk X.prog X.w X.K X.mg X.base CX k f fd ps sp) (hr : Room k X.A) (hg : Gl X x) (hm : X.mg x = some (.ref f)) (hk : PySem.W.keepIn X.K (.ref f) = true) (hb : Binds X.K fd ps ds) (hd : Vals dvs ds) (hx : Passes CX X E)
    (ha : PA X (e :: es) t) (hdb : (x == ("__debug__" : Str)) = false := by decide) (he : starEach (e :: es) X.env = (false, eval e X.env) :: starEach es X.env := by rfl) (hpl : (backTo pos (starEach es X.env)).any (·.1) = false := by rfl) :
    PE X (.Call (.Name x p) (e :: es) [] pos) (tCall sp dvs E t) := by
  intro pins s σ H Q I h
  refine wpAny_Call_Name_kw (ld_glob I hg hm ?_ hdb)
  refine PySem.W.callWith_K (h₀ := X.base) I.ok.mod.kin hk (thn (ha pos pins s σ H _ I h) fun us s1 ⟨vs, H1, I1, r, q⟩ => ⟨I1.kIn, ?_⟩) he hpl
  exact run_fn F hr hb hd hx I1 r q
end
def PK (X : Cx) (kws : List Keyword) (t : TA) : Prop :=
  ∀ (pos : Pos) (pins : List (Addr × Obj)) (s : Shared) (σ : St) (H : Hp) (Q : List V → Hp → Prop), Inv X pins σ H s → t σ H Q → wpAny (model X.prog X.w) X.A (evalAll ((backToKw pos (keywordEach kws X.env)).map (·.2))) (AP X pins σ Q) X.xe s
section
variable {X : Cx} {CX : CXT} {k : Nat} {f C : Addr} {fd : FuncData} {ps ks : List Str} {sp : Sp} {E : XK} {x m : Str} {p pos apos kpos : Pos} {e o : Expr} {es : List Expr} {kws : List Keyword} {te ta : TE} {t tk : TA} {nm : Option Str}
theorem pk_nil : PK X [] tNil := fun _ _ _ _ H Q I h => wpAny_evalAll_nil ⟨[], H, I, .nil, h⟩
theorem pk_cons (ha : PE X e te) (hr : PK X kws t) : PK X (⟨nm, e, kpos⟩ :: kws) (tCons te t) := by
  intro pos pins s σ H Q I h
  show wpAny _ _ (evalAll ((do let v ← eval e X.env; standAt pos; pure v) :: (backToKw pos (keywordEach kws X.env)).map (·.2))) _ _ s
  refine wpAny_evalAll_cons (wpAny_bind (thn (ha pins s σ H _ I h) fun u s1 ⟨x, H1, I1, r1, q1⟩ => wpAny_bind (wpAny_standAt (wpAny_pure ?_))))
  exact thn (hr pos pins s1 σ H1 _ I1 q1) fun us s2 ⟨xs, H2, I2, r2, q2⟩ => ⟨x :: xs, H2, I2, .cons r1 r2, q2⟩
variable {g : List Value → List Value → List Value} {gV : List V → List V → List V}
end
structure FnScope (N P : List Str) (sc : Scope) : Prop where
  kind : sc.kind = .function
  co : sc.isCoroutine = false
  gen : sc.isGenerator = false
  nd : N.Nodup
  pre : N.take P.length = P
  par : ∀ x ∈ P, sc.names.lookup x = some .local ∨ sc.names.lookup x = some .cell
  nofree : ∀ y ∈ sc.names, y.2 ≠ .free
theorem bindL_out {kindOf : Str → Option NameKind} {x : Str} : ∀ {binds : List (Str × Value)} {m : Str → Option Value}, (∀ v, (x, v) ∉ binds) → bindL kindOf binds m x = m x
  | [], _, _ => rfl
  | (n, v) :: r, m, h => by
    unfold bindL
    rw [bindL_out fun w hw => h w (List.mem_cons_of_mem _ hw)]
    split
    · have : x ≠ n := by rintro rfl; exact h v List.mem_cons_self
      simp [this]
    · rfl
theorem bindC_out {kindOf : Str → Option NameKind} {x : Str} : ∀ {binds : List (Str × Value)} {m : Str → Option Value}, (∀ v, (x, v) ∉ binds) → bindC kindOf binds m x = m x
  | [], _, _ => rfl
  | (n, v) :: r, m, h => by
    unfold bindC
    rw [bindC_out fun w hw => h w (List.mem_cons_of_mem _ hw)]
    split
    · rfl
    · have : x ≠ n := by rintro rfl; exact h v List.mem_cons_self
      simp [this]
theorem bindL_get {kindOf : Str → Option NameKind} {x : Str} {v : Value} : ∀ {P : List Str} {vs : List Value} {i : Nat} {m : Str → Option Value}, P.Nodup → P[i]? = some x → vs[i]? = some v → kindOf x = some .local →
    bindL kindOf (P.zip vs) m x = some v
  | [], _, _, _, _, h, _, _ => by simp at h
  | _ :: _, [], _, _, _, _, h, _ => by simp at h
  | p :: P, w :: vs, 0, m, nd, h1, h2, hk => by
    simp at h1 h2; subst h1; subst h2
    show bindL kindOf ((p, w) :: P.zip vs) m p = _
    unfold bindL
    rw [bindL_out fun v hv => (List.nodup_cons.mp nd).1 (List.of_mem_zip hv).1, if_pos hk]
    simp
  | p :: P, w :: vs, i + 1, m, nd, h1, h2, hk => by
    show bindL kindOf ((p, w) :: P.zip vs) m x = _
    unfold bindL
    exact bindL_get (i := i) (List.nodup_cons.mp nd).2 (by simpa using h1) (by simpa using h2) hk
theorem bindC_get {kindOf : Str → Option NameKind} {x : Str} {v : Value} : ∀ {P : List Str} {vs : List Value} {i : Nat} {m : Str → Option Value}, P.Nodup → P[i]? = some x → vs[i]? = some v → kindOf x ≠ some .local →
    bindC kindOf (P.zip vs) m x = some v
  | [], _, _, _, _, h, _, _ => by simp at h
  | _ :: _, [], _, _, _, _, h, _ => by simp at h
  | p :: P, w :: vs, 0, m, nd, h1, h2, hk => by
    simp at h1 h2; subst h1; subst h2
    show bindC kindOf ((p, w) :: P.zip vs) m p = _
    unfold bindC
    rw [bindC_out fun v hv => (List.nodup_cons.mp nd).1 (List.of_mem_zip hv).1, if_neg hk]
    simp
  | p :: P, w :: vs, i + 1, m, nd, h1, h2, hk => by
    show bindC kindOf ((p, w) :: P.zip vs) m x = _
    unfold bindC
    exact bindC_get (i := i) (List.nodup_cons.mp nd).2 (by simpa using h1) (by simpa using h2) hk
def start (N : List Str) (vs : List V) : St := vs.map some ++ List.replicate (N.length - vs.length) none
def cxOf (CX : CXT) (P : Program) (w : World) (K : PySem.W.Frag) (mg : Str → Option Value) (base : Heap) (N : List Str) (qual : Str) (scope : Scope) (f : Addr) (cd : Value) (A : Around) (outer : List Env) (s : Shared) (H : Hp) (E : XK) : Cx where
  prog := P
  w := w
  K := K
  mg := mg
  base := base
  A := A.deeper (envOfC qual scope s.heap.objs.size f cd)
  N := N
  s₀ := s
  H₀ := H
  env := envOfC qual scope s.heap.objs.size f cd
  outer := outer
  stack := envOfC qual scope s.heap.objs.size f cd :: outer
  ex := []
  calm := true
  fn := fun _ => true
  pn := []
  xe := fun e s' => wpAny (model P w) (A.deeper (envOfC qual scope s.heap.objs.size f cd)) (leaving (envOfC qual scope s.heap.objs.size f cd) e) (fun _ s'' => CX outer H s E e s'') (fun e' s'' => CX outer H s E e' s'') s'
theorem cell_has {sc : Scope} {n : Nat} {x : Str} (h : sc.names.lookup x = some .cell) : ∃ c, (cellsFrom n sc.names []).lookup x = some c := by
  have q := PySem.W.cellsFrom_some sc.names n [] (.inl h)
  exact Option.isSome_iff_exists.mp q
theorem inv_start {CX : CXT} {P : Program} {w : World} {K : PySem.W.Frag} {mg : Str → Option Value} {base : Heap} {N ps : List Str} {qual : Str} {scope : Scope} {f : Addr} {cd : Value} {A : Around} {outer : List Env} {s s1 : Shared} {H : Hp} {E : XK} {us : List Value} {vs : List V}
    (S : FnScope N ps scope) (hd : A.handled = none) (e0 : Env0 P w K mg base A outer s H) (hl : vs.length = ps.length) (r : Vals vs us)
    (x : InCallC s s.heap.objs.size (bindL (envOfC qual scope s.heap.objs.size f cd).kindOf (ps.zip us) fun _ => none) (cellsFrom (s.heap.objs.size + 1) scope.names []) (bindC (envOfC qual scope s.heap.objs.size f cd).kindOf (ps.zip us) fun _ => none) s1) :
    Inv (cxOf CX P w K mg base N qual scope f cd A outer s H E) [] (start N vs) H s1 := by
  have hpl : ps.length ≤ N.length := by have := congrArg List.length S.pre; rw [List.length_take] at this; omega
  obtain ⟨h1, tk, rfl, hk⟩ := x.done
  have noA : ∀ b : Addr, b ∉ (cxOf CX P w K mg base N qual scope f cd A outer s H E).ex := fun b z => absurd (show b ∈ ([] : List Addr) from z) (by simp)
  refine ⟨⟨e0.mod, S.kind, rfl, rfl, Nat.le_refl _, fun y z c h1 h2 => ?_, fun y hy => ?_, fun y c _ h => ?_, fun _ => hd, Around.frames_deeper e0.frames, .inr ⟨rfl, rfl⟩, fun b z => absurd z (noA b), e0.bs, e0.bsz, fun b _ _ => noA b, fun b z => absurd z (noA b), e0.funs, e0.frf⟩,
    rfl, e0.bare, Un.kept hk, ⟨_, x.toInCall.ns, fun i y v h1 h2 h3 => ?_⟩, fun y c h => ⟨_, x.cell y c h⟩, e0.hok.fresh (Nat.le_refl _), fun y c h => ?_, fun p hp => absurd (show p ∈ ([] : List (Addr × Obj)) from hp) (by simp), e0.hok.kept hk, ?_⟩
  · exact name_of_addr x.apart (PySem.mem_of_lookup h1) (PySem.mem_of_lookup h2)
  · have hy : scope.names.lookup y = some .cell ∨ scope.names.lookup y = some .free := hy
    rcases hy with hy | hy
    · exact cell_has hy
    · exact absurd rfl (S.nofree _ (PySem.mem_of_lookup hy))
  · exact Nat.le_of_lt (x.above y c (PySem.mem_of_lookup h))
  · have hi : i < vs.length := by
      unfold start at h2
      by_cases hi : i < vs.length
      · exact hi
      · rw [List.getElem?_append_right (by simpa using hi)] at h2
        rw [List.getElem?_replicate] at h2
        split at h2 <;> cases h2
    have ha : vs[i]? = some v := by
      unfold start at h2
      rw [List.getElem?_append_left (by simpa using hi), List.getElem?_map] at h2
      cases e : vs[i]? with
      | none => rw [e] at h2; cases h2
      | some a => rw [e] at h2; cases h2; rfl
    obtain ⟨u, hu, rv⟩ := r.get ha
    have hp : ps[i]? = some y := by
      rw [← S.pre, List.getElem?_take_of_lt (by omega)]; exact h1
    have ndP : ps.Nodup := by rw [← S.pre]; exact S.nd.sublist (List.take_sublist _ _)
    refine ⟨u, rv, ?_⟩
    rcases S.par y (List.mem_of_getElem? hp) with k | k
    · exact .inl ⟨k, bindL_get ndP hp hu k⟩
    · obtain ⟨c, e⟩ := cell_has (n := s.heap.objs.size + 1) k
      refine .inr ⟨.inl k, c, e, ?_⟩
      have q := x.cell y c e
      rw [bindC_get ndP hp hu (by show scope.names.lookup y ≠ _; rw [k]; decide)] at q
      exact q
  · exact e0.hok.fresh (Nat.le_of_lt (x.above y c (PySem.mem_of_lookup h)))
  · unfold start
    show _ = N.length
    rw [List.length_append, List.length_map, List.length_replicate]
    omega
theorem fn_of {CX : CXT} {P : Program} {w : World} {K : PySem.W.Frag} {mg : Str → Option Value} {base : Heap} {k : Nat} {f : Addr} {name qual : Str} {params : Arguments} {body : List Stmt} {scope : Scope} {dV kV doc pm cdv ct oc : Value} {an od : Option Addr}
    {osl : Array (Option Value)} {N ps : List Str} {sp : Sp} (lk : K.lookup f = some ⟨oc, od, .func (PySem.W.fnOf name qual params body scope dV kV doc pm an cdv ct), osl⟩) (hcd : PySem.W.codeIn K cdv qual = true) (S : FnScope N ps scope)
    (len : ∀ vs H Q E, sp vs H Q E → vs.length = ps.length)
    (hbody : ∀ (A : Around) (outer : List Env) (s : Shared) (H : Hp) (vs : List V) (Q : VK) (E : XK), Room k (A.deeper (envOfC qual scope s.heap.objs.size f cdv)) → sp vs H Q E →
      ∃ t, PSs (cxOf CX P w K mg base N qual scope f cdv A outer s H E) body t ∧ t { nx := fun _ H' => Q .non H', rt := Q } (start N vs) H) :
    FnOk P w K mg base CX (k + 1) f (PySem.W.fnOf name qual params body scope dV kV doc pm an cdv ct) ps sp := by
  refine ⟨len, fun A outer s H args us vs Q E hr e0 hb r hsp => ?_⟩
  have hl := len _ _ _ _ hsp
  have KX : K.In s.heap := e0.mod.kin.keeps fun b o e => (e0.bs b o e).1
  have lim : s.heap.NoLimit := e0.mod.nolimit.keeps fun b o e => (e0.bs b o e).1
  have hkind : ∀ y ∈ ps.zip us, scope.names.lookup y.1 = some .local ∨ (scope.names.lookup y.1 = some .cell ∧ ((cellsFrom (s.heap.objs.size + 1) scope.names []).lookup y.1).isSome = true) := fun ⟨n, v⟩ hy => by
    rcases S.par n (List.of_mem_zip hy).1 with q | q
    · exact .inl q
    · exact .inr ⟨q, PySem.W.cellsFrom_some _ _ _ (.inl q)⟩
  refine codeAny_call_function hr.depth (KX _ _ lk) rfl S.co S.gen rfl (PySem.W.codeRec_of KX hcd) (hb _ _ _ _ ?_)
  refine wpAny_newFunctionEnv_cells S.kind hkind fun env he s1 x => ?_
  subst he
  refine ⟨lim.keeps x.toInCall.keep, codeAny_func ?_⟩
  obtain ⟨t, ht, hq⟩ := hbody A outer s H vs Q E (hr.deeper _) hsp
  have I : Inv (cxOf CX P w K mg base N qual scope f cdv A outer s H E) [] (start N vs) H s1 := inv_start S hr.hd e0 hl r x
  refine wpAny_mono (ht [] s1 (start N vs) H _ I hq) (fun fl s' hs => ?_) fun e s' hs => hs
  have fin : ∀ {σ' : St} {H' : Hp} {v : V} {u : Value}, Inv (cxOf CX P w K mg base N qual scope f cdv A outer s H E) [] σ' H' s' → RelV v u → Q v H' → CE outer P w H s Q u s' :=
    fun {σ' H' v u} J rv q => ⟨v, H', J.os, J.bare, J.base, J.hok, rv, q⟩
  cases fl with
  | ret u =>
    obtain ⟨v, σ', H', J, rv, q⟩ := hs
    exact fin J rv q
  | next =>
    obtain ⟨σ', H', J, q⟩ := hs
    exact fin (v := V.non) (u := Value.none) J rfl q
  | brk =>
    obtain ⟨_, _, _, q⟩ := hs
    exact False.elim q
  | cont =>
    obtain ⟨_, _, _, q⟩ := hs
    exact False.elim q
end L2
namespace L2
open PySem PySem.Spec PyProof.Rows
section
variable {X : Cx} {x : Str} {p pos : Pos} {e : Expr} {es : List Expr} {t : TA} {id T : String} {r : List V → Hp → VK → Prop}
def tCB (r : List V → Hp → VK → Prop) (t : TA) : TE := fun σ H Q => t σ H fun vs H1 => r vs H1 Q
theorem pe_callB (hc : CallR X (.builtin id) r) (hg : Gl X x) (hm : X.mg x = none) (hv : bootBuiltins x = some (.builtin id)) (ha : PA X (e :: es) t) (hn : x ≠ "__name__" := by decide) (hdb : (x == ("__debug__" : Str)) = false := by decide)
    (he : starEach (e :: es) X.env = (false, eval e X.env) :: starEach es X.env := by rfl) (hpl : (backTo pos (starEach es X.env)).any (·.1) = false := by rfl) : PE X (.Call (.Name x p) (e :: es) [] pos) (tCB r t) := by
  intro pins s σ H Q I h
  refine wpAny_Call_Name_kw (ld_blt I hg hm hv ?_ hn hdb)
  exact PyProof.Rows.callWith_builtin1 (thn (ha pos pins s σ H _ I h) fun us s1 ⟨vs, H1, I1, r1, q1⟩ => hc pins s1 σ H1 vs us Q I1 r1 q1) he hpl
theorem pe_callTy (hc : CallR X (.type T) r) (hg : Gl X x) (hm : X.mg x = none) (hv : bootBuiltins x = some (.type T)) (ha : PA X (e :: es) t) (hn : x ≠ "__name__" := by decide) (hdb : (x == ("__debug__" : Str)) = false := by decide)
    (he : starEach (e :: es) X.env = (false, eval e X.env) :: starEach es X.env := by rfl) (hpl : (backTo pos (starEach es X.env)).any (·.1) = false := by rfl) : PE X (.Call (.Name x p) (e :: es) [] pos) (tCB r t) := by
  intro pins s σ H Q I h
  refine wpAny_Call_Name_kw (ld_blt I hg hm hv ?_ hn hdb)
  exact PyProof.Rows.callWith_type1 (thn (ha pos pins s σ H _ I h) fun us s1 ⟨vs, H1, I1, r1, q1⟩ => hc pins s1 σ H1 vs us Q I1 r1 q1) he hpl
end
end L2
namespace HT
open PySem PyProof.Rows
section
variable {prog : Program} {w : World} {A : Around} {E : Value → Shared → Prop} {s : Shared}
def sIx (n d : Nat) : Option Int → Nat
  | none => d
  | some v => if v < 0 then (v + (n : Int)).toNat else min v.toNat n
theorem sIx_none (n d : Nat) : sIx n d none = d := rfl
theorem sIx_nat (n d k : Nat) : sIx n d (some (k : Int)) = min k n := by
  show (if (k : Int) < 0 then ((k : Int) + (n : Int)).toNat else min (k : Int).toNat n) = min k n
  rw [if_neg (by omega), Int.toNat_natCast]
theorem sIx_le (n d : Nat) (hd : d ≤ n) (o : Option Int) : sIx n d o ≤ n := by
  cases o with
  | none => exact hd
  | some v =>
    show (if v < 0 then (v + (n : Int)).toNat else min v.toNat n) ≤ n
    by_cases hv : v < 0
    · rw [if_pos hv]; omega
    · rw [if_neg hv]; exact Nat.min_le_right _ _
theorem clip_eq (v : Int) (n d : Nat) : (if v < 0 then max (v + (n : Int)) 0 else min v (n : Int)) = ((sIx n d (some v) : Nat) : Int) := by
  show (if v < 0 then max (v + (n : Int)) 0 else min v (n : Int)) = (((if v < 0 then (v + (n : Int)).toNat else min v.toNat n) : Nat) : Int)
  by_cases hv : v < 0
  · simp only [if_pos hv]; omega
  · simp only [if_neg hv]; omega
theorem adjust_gen (lo hi : Option Int) (n : Nat) : Builtin.Slice.sliceAdjust lo hi 1 (n : Int) = (((sIx n 0 lo : Nat) : Int), ((sIx n n hi : Nat) : Int)) := by
  have h1 : ¬ ((1 : Int) < 0) := by omega
  unfold Builtin.Slice.sliceAdjust
  simp only [h1, if_false]
  refine Prod.ext ?_ ?_
  · cases lo with
    | none => rfl
    | some v => exact clip_eq v n 0
  · cases hi with
    | none => rfl
    | some v => exact clip_eq v n n
theorem places_gen (i j : Nat) : Builtin.Slice.slicePlaces (i : Int) (j : Int) 1 = j - i := by
  unfold Builtin.Slice.slicePlaces
  have h1 : (1 : Int) > 0 := by omega
  simp only [h1, if_true, Int.ediv_one]
  split <;> omega
theorem slicePart_ {v : Value} {o : Option Int} {Q : Option Int → Shared → Prop} (p : IsPart v o) (h : Q o s) : wpAny (model prog w) A (Builtin.Slice.slicePartIndex v) Q E s := by
  cases p with
  | none => exact slicePart_none h
  | int i t => exact slicePart_int h
theorem sliceApplied_gen {sl : Addr} {vl vu : Value} {lo hi : Option Int} {n : Nat} {Q : Int × Int × Nat → Shared → Prop} (hs : s.heap.IsSliceOf sl vl vu .none) (pl : IsPart vl lo) (pu : IsPart vu hi)
    (h : Q (((sIx n 0 lo : Nat) : Int), 1, sIx n n hi - sIx n 0 lo) s) : wpAny (model prog w) A (Builtin.Slice.sliceApplied (.ref sl) (pure (n : Int))) Q E s := by
  obtain ⟨os, hos, hcs, hds⟩ := id hs
  unfold Builtin.Slice.sliceApplied Builtin.Slice.sliceFields
  refine wpAny_bind (wpAny_bind (wpAny_field hos hds (x := vl) rfl (wpAny_bind (wpAny_field hos hds (x := vu) rfl (wpAny_bind (wpAny_field hos hds (x := .none) rfl (wpAny_pure ?_)))))))
  refine wpAny_bind (slicePart_none ?_)
  show wpAny _ _ (if ((1 : Int) == 0) = true then _ else _) _ _ s
  rw [if_neg (by decide)]
  refine wpAny_bind (slicePart_ pl (wpAny_bind (slicePart_ pu (wpAny_bind (wpAny_pure ?_)))))
  show wpAny _ _ (match Builtin.Slice.sliceAdjust lo hi 1 (n : Int) with | (lo, hi) => pure (lo, (1 : Int), Builtin.Slice.slicePlaces lo hi 1)) _ _ s
  rw [adjust_gen lo hi n]
  show wpAny _ _ (pure (((sIx n 0 lo : Nat) : Int), (1 : Int), Builtin.Slice.slicePlaces ((sIx n 0 lo : Nat) : Int) ((sIx n n hi : Nat) : Int) 1)) _ _ s
  rw [places_gen]
  exact wpAny_pure h
theorem pick_gen (xs : Array Value) (i k : Nat) : ((List.range k).filterMap fun (m : Nat) => xs[((i : Int) + (m : Int) * 1).toNat]?).toArray = ((xs.toList.drop i).take k).toArray := by
  have e : (fun (m : Nat) => xs[((i : Int) + (m : Int) * 1).toNat]?) = fun m => xs[i + m]? := by
    funext m
    have : ((i : Int) + (m : Int) * 1).toNat = i + m := by omega
    rw [this]
  rw [e]
  have := pick_run xs i k
  rw [List.filterMap_map] at this
  have e2 : ((fun x => xs[x]?) ∘ fun x => i + x) = fun m => xs[i + m]? := rfl
  rw [e2] at this
  rw [this]
theorem getItem_tuple_cut {t sl : Addr} {items : Array Value} {vl vu : Value} {lo hi : Option Int} {Q : Value → Shared → Prop} (ht : IsTup s.heap t items) (hs : s.heap.IsSliceOf sl vl vu .none) (pl : IsPart vl lo) (pu : IsPart vu hi)
    (hw : ¬ (sIx items.size 0 lo = 0 ∧ sIx items.size items.size hi = items.size))
    (h : Q (.ref s.heap.objs.size) { s with heap := s.heap.push { cls := .type "tuple", data := .seq ((items.toList.drop (sIx items.size 0 lo)).take (sIx items.size items.size hi - sIx items.size 0 lo)).toArray } })
    (hsz : items.size ≤ sizeLine) : wpAny (model prog w) A (getItem (.ref t) (.ref sl)) Q E s := by
  have htake : sizeOk (.seq ((items.toList.drop (sIx items.size 0 lo)).take (sIx items.size items.size hi - sIx items.size 0 lo)).toArray) := by
    show ((items.toList.drop (sIx items.size 0 lo)).take (sIx items.size items.size hi - sIx items.size 0 lo)).toArray.size ≤ sizeLine
    rw [List.size_toArray, List.length_take, List.length_drop, Array.length_toList]
    omega
  have hj : sIx items.size items.size hi ≤ items.size := sIx_le _ _ (Nat.le_refl _) hi
  obtain ⟨os, hos, hcs, hds⟩ := id hs
  have hTs : s.TypeIs (.ref sl) "slice" := ⟨os, hos, hcs⟩
  unfold getItem
  try with_reducible refine wpAny_holding ?_
  first | refine wpAny_bind (wpAny_pure ?_) | skip
  refine wpAny_bind (wpAny_sequenceKey ht.typeIs (by decide) ?_)
  refine wpAny_bind (wpAny_callSpecial?_slot (name := Str.ofString "__getitem__") ht.typeIs PyProof.Rows.slot_tuple_getitem
    (wpAny_call_entry PyProof.Rows.slot_tuple_getitem ht.typeIs entry_tuple_getitem ?_ (args_tuple_getitem _ _)))
  show wpAny _ _ (Builtin.Tuple.tupleItemsOf (.ref t) >>= _) _ _ s
  refine wpAny_bind (tupleItemsOf_ ht ?_)
  refine wpAny_bind (wpAny_typeOf hTs ?_)
  rw [if_pos (by decide)]
  refine wpAny_bind (sliceApplied_gen hs pl pu ?_)
  have hno : ¬ ((((sIx items.size 0 lo : Nat) : Int) == 0 && (1 : Int) == 1 && (sIx items.size items.size hi - sIx items.size 0 lo) == items.size) = true) := by
    intro q
    rw [Bool.and_eq_true, Bool.and_eq_true] at q
    have q1 : ((sIx items.size 0 lo : Nat) : Int) = 0 := eq_of_beq q.1.1
    have q2 : sIx items.size items.size hi - sIx items.size 0 lo = items.size := eq_of_beq q.2
    exact hw ⟨by omega, by omega⟩
  show wpAny _ _ (if (((sIx items.size 0 lo : Nat) : Int) == 0 && (1 : Int) == 1 && (sIx items.size items.size hi - sIx items.size 0 lo) == items.size) = true then _ else _) _ _ s
  rw [if_neg hno, pick_gen]
  first
    | exact wpAny_bind (m := Builtin.Tuple.tupleExact _) (wpAny_newObj_type (wpAny_pure ⟨_, rfl, wpAny_pure h⟩) htake)
    | exact wpAny_bind (m := Builtin.Tuple.tupleExact _) (wpAny_newObj_type (wpAny_bind (wpAny_pure (wpAny_pure ⟨_, rfl, wpAny_pure h⟩))) htake)
    | exact wpAny_bind (wpAny_bind (m := Builtin.Tuple.tupleExact _) (wpAny_newObj_type (wpAny_pure (wpAny_pure ⟨_, rfl, wpAny_pure h⟩)) htake))
    | exact wpAny_bind (wpAny_bind (m := Builtin.Tuple.tupleExact _) (wpAny_newObj_type (wpAny_pure ⟨_, rfl, wpAny_pure h⟩) htake))
end
end HT
namespace L2
open PySem PySem.Spec PyProof.Rows
abbrev TO := St → Hp → (Option Int → Hp → Prop) → Prop
def PO (X : Cx) (e : Option Expr) (t : TO) : Prop :=
  ∀ (pins : List (Addr × Obj)) (s : Shared) (σ : St) (H : Hp) (Q : Option Int → Hp → Prop), Inv X pins σ H s → t σ H Q →
    wpAny (model X.prog X.w) X.A (evalPart e X.env) (fun u s' => ∃ o H', Inv X pins σ H' s' ∧ IsPart u o ∧ Q o H') X.xe s
def tNoPart : TO := fun _ H Q => Q none H
def tPart (t : TE) : TO := fun σ H Q => t σ H fun x H1 => ∃ i, x = .int i ∧ Q (some i) H1
section
variable {X : Cx} {e : Expr} {te : TE} {lo hi : Option Expr} {tl th : TO} {pos p2 : Pos}
theorem po_none : PO X none tNoPart := by
  intro pins s σ H Q I h
  rw [evalPart_none]
  exact wpAny_pure ⟨none, H, I, .none, h⟩
theorem po_some (h : PE X e te) : PO X (some e) (tPart te) := by
  intro pins s σ H Q I hw
  rw [evalPart_some]
  refine thn (h pins s σ H _ I hw) fun u s1 ⟨x, H1, I1, r1, q1⟩ => ?_
  obtain ⟨i, rfl, q⟩ := q1
  obtain ⟨t, rfl⟩ := r1
  exact ⟨some i, H1, I1, .int i t, q⟩
def SlR (X : Cx) (r : V → Option Int → Option Int → Hp → VK → Prop) : Prop :=
  ∀ (pins : List (Addr × Obj)) (s : Shared) (σ : St) (H : Hp) (x : V) (v vl vu : Value) (lo hi : Option Int) (sl : Addr) (Q : VK), Inv X pins σ H s → RelV x v → s.heap.IsSliceOf sl vl vu .none → IsPart vl lo → IsPart vu hi → r x lo hi H Q →
    ∃ T id, typeLookup (.type T) "__getitem__" = pure (some (.builtin id)) ∧ s.TypeIs v T ∧ wpAny (model X.prog X.w) X.A (getItem v (.ref sl)) (EP X pins σ Q) X.xe s
theorem SlR.or {r r' : V → Option Int → Option Int → Hp → VK → Prop} (h : SlR X r) (h' : SlR X r') : SlR X (fun x lo hi H Q => r x lo hi H Q ∨ r' x lo hi H Q) := by
  intro pins s σ H x v vl vu lo hi sl Q I rx hs pl pu q
  rcases q with q | q
  · exact h pins s σ H x v vl vu lo hi sl Q I rx hs pl pu q
  · exact h' pins s σ H x v vl vu lo hi sl Q I rx hs pl pu q
def tSl (r : V → Option Int → Option Int → Hp → VK → Prop) (te : TE) (tl th : TO) : TE := fun σ H Q => te σ H fun x H1 => tl σ H1 fun l H2 => th σ H2 fun u H3 => r x l u H3 Q
theorem pe_slice {r : V → Option Int → Option Int → Hp → VK → Prop} (hr : SlR X r) (he : PE X e te) (hl : PO X lo tl) (hu : PO X hi th) : PE X (.Subscript e (.Slice lo hi none p2) pos) (tSl r te tl th) := by
  intro pins s σ H Q I h
  refine Subscript_ (thn (he pins s σ H _ I h) fun v s1 ⟨x, H1, I1, r1, q1⟩ => ?_)
  refine wpAny_Slice (thn (hl pins s1 σ H1 _ I1 q1) fun vl s2 ⟨l, H2, I2, pl, q2⟩ => thn (hu pins s2 σ H2 _ I2 q2) fun vu s3 ⟨u, H3, I3, pu, q3⟩ => ?_)
  rw [evalPart_none]
  refine wpAny_pure ?_
  have I4 : Inv X pins σ H3 { s3 with heap := s3.heap.push { cls := .type "slice", data := .fields #[vl, vu, .none] } } := I3.kept (t' := s3.toks) fun b ob q => Heap.get?_push_of_some _ q
  obtain ⟨T, id, hT, ht, hg⟩ := hr pins { s3 with heap := s3.heap.push { cls := .type "slice", data := .fields #[vl, vu, .none] } } σ H3 x v vl vu l u s3.heap.objs.size Q I4 r1 (Heap.IsSliceOf.new ..) pl pu q3
  show wpAny (model X.prog X.w) X.A (subscriptTail e (.Slice lo hi none p2) v (.ref s3.heap.objs.size)) (EP X pins σ Q) X.xe { s3 with heap := s3.heap.push { cls := .type "slice", data := .fields #[vl, vu, .none] } }
  exact tail_any (ops := [.ref s3.heap.objs.size, v]) ht hT hg (by with_unfolding_all rfl)
def cutV (xs : List V) (lo hi : Option Int) : List V := (xs.drop (HT.sIx xs.length 0 lo)).take (HT.sIx xs.length xs.length hi - HT.sIx xs.length 0 lo)
theorem cutV_length (xs : List V) (lo hi : Option Int) : (cutV xs lo hi).length ≤ xs.length := by
  unfold cutV
  rw [List.length_take, List.length_drop]
  omega
def rSlT (K : PySem.W.Frag) : V → Option Int → Option Int → Hp → VK → Prop := fun x lo hi H Q => ∃ a xs, x = .ref a ∧ SqT K H a xs ∧
  ¬ (HT.sIx xs.length 0 lo = 0 ∧ HT.sIx xs.length xs.length hi = xs.length) ∧ ∀ p, H p = none → Q (.ref p) (upd H p (.tup (cutV xs lo hi)))
theorem sl_tup : SlR X (rSlT X.K) := by
  intro pins s σ H x v vl vu lo hi sl Q I rx hs pl pu h
  obtain ⟨a, xs, rfl, hx, hw, q⟩ := h
  cases rx
  obtain ⟨its, r, ht, hz⟩ := I.tuple hx
  have hlen : its.toArray.size = xs.length := by rw [List.size_toArray]; exact r.length.symm
  refine ⟨"tuple", _, PyProof.Rows.slot_tuple_getitem.lookup, ht.typeIs, ?_⟩
  refine HT.getItem_tuple_cut ht hs pl pu (by rw [hlen]; exact hw) ?_ (by rw [hlen]; exact hz)
  rw [hlen]
  refine ⟨.ref s.heap.objs.size, _, I.laid (t' := s.toks) (o := .tup (cutV xs lo hi)) (fun b ob q => Heap.get?_push_of_some _ q) (Nat.le_refl _) ?_, rfl, q _ (I.hok.fresh (Nat.le_refl _))⟩
  exact ⟨Nat.le_trans (cutV_length xs lo hi) hz, _, (r.drop (HT.sIx xs.length 0 lo)).take (HT.sIx xs.length xs.length hi - HT.sIx xs.length 0 lo), IsTup.new _ _⟩
theorem Vals.nil_iff {xs : List V} {us : List Value} (r : Vals xs us) : us = [] ↔ xs = [] := by
  cases r with
  | nil => simp
  | cons _ _ => simp
end
end L2
namespace L2
open PySem PySem.Spec PyProof.Rows
def ixN (n : Nat) (i : Int) : Option Nat := if 0 ≤ i then (if i < n then some i.toNat else none) else if -(n : Int) ≤ i then some (i + n).toNat else none
def atI {α : Type} (xs : List α) (i : Int) : Option α := (ixN xs.length i).bind fun j => xs[j]?
theorem ixN_seq {n : Nat} {i : Int} {j : Nat} (h : ixN n i = some j) : seqIndex? i n = some j ∧ j < n ∧ -(n : Int) ≤ i ∧ i < n := by
  unfold ixN at h
  by_cases h0 : 0 ≤ i
  · rw [if_pos h0] at h
    by_cases h1 : i < n
    · rw [if_pos h1] at h
      have e : i.toNat = j := Option.some.inj h
      exact ⟨by rw [seqIndex_of h0 h1, e], by omega, by omega, h1⟩
    · rw [if_neg h1] at h; cases h
  · rw [if_neg h0] at h
    by_cases h1 : -(n : Int) ≤ i
    · rw [if_pos h1] at h
      have e : (i + n).toNat = j := Option.some.inj h
      exact ⟨by rw [seqIndex_neg (by omega) h1, e], by omega, h1, by omega⟩
    · rw [if_neg h1] at h; cases h
theorem atI_get {α : Type} {xs : List α} {i : Int} {v : α} (h : atI xs i = some v) : ∃ j, seqIndex? i xs.length = some j ∧ xs[j]? = some v ∧ j < xs.length ∧ -(xs.length : Int) ≤ i ∧ i < xs.length := by
  unfold atI at h
  cases e : ixN xs.length i with
  | none => rw [e] at h; cases h
  | some j =>
    rw [e] at h
    obtain ⟨h1, h2, h3, h4⟩ := ixN_seq e
    exact ⟨j, h1, h, h2, h3, h4⟩
def PlainIx (b : Expr) : Prop := ∀ o i, subscripted b false o i = operate [o, i] (getItem o i)
def IxR (X : Cx) (r : R2) : Prop :=
  ∀ (value slice : Expr) (pins : List (Addr × Obj)) (s : Shared) (σ : St) (H : Hp) (x y : V) (v u : Value) (Q : VK), Inv X pins σ H s → RelV x v → RelV y u → r x y H Q →
    subscripted slice false v u = operate [v, u] (getItem v u) → wpAny (model X.prog X.w) X.A (subscriptTail value slice v u) (EP X pins σ Q) X.xe s
def MtR (X : Cx) (id : String) (r : V → List V → Hp → VK → Prop) : Prop :=
  ∀ (pins : List (Addr × Obj)) (s : Shared) (σ : St) (H : Hp) (x : V) (xs : List V) (v : Value) (us : List Value) (Q : VK), Inv X pins σ H s → RelV x v → Vals xs us → r x xs H Q →
    wpAny (model X.prog X.w) X.A (call (.builtin id) (v :: us)) (EP X pins σ Q) X.xe s
section
variable {X : Cx} {a b : Expr} {ta tb : TE} {pos : Pos}
theorem IxR.or {r r' : R2} (h : IxR X r) (h' : IxR X r') : IxR X (fun x y H Q => r x y H Q ∨ r' x y H Q) := by
  intro value slice pins s σ H x y v u Q I rx ry q hs
  rcases q with q | q
  · exact h value slice pins s σ H x y v u Q I rx ry q hs
  · exact h' value slice pins s σ H x y v u Q I rx ry q hs
theorem pe_ix {r : R2} (hr : IxR X r) (ha : PE X a ta) (hb : PE X b tb) (hs : PlainIx b) : PE X (.Subscript a b pos) (tOp r ta tb) := by
  intro pins s σ H Q I h
  exact Subscript_ (binT ha hb I h fun v u s2 x y H2 I2 rx ry q => hr a b pins s2 σ H2 x y v u Q I2 rx ry q (hs _ _))
def rIxL (K : PySem.W.Frag) : R2 := fun x y H Q => ∃ p xs i v, x = .ref p ∧ y = .int i ∧ SqL K H p xs ∧ atI xs i = some v ∧ Q v H
def rIxT (K : PySem.W.Frag) : R2 := fun x y H Q => ∃ p xs i v, x = .ref p ∧ y = .int i ∧ SqT K H p xs ∧ atI xs i = some v ∧ Q v H
theorem ix_list : IxR X (rIxL X.K) := by
  intro value slice pins s σ H x y v u Q I rx ry h hs
  obtain ⟨p, xs, i, z, rfl, rfl, hq, he, q⟩ := h
  cases rx
  obtain ⟨t, rfl⟩ := ry
  obtain ⟨its, r, pl, hz⟩ := I.list hq
  obtain ⟨j, h1, h2, h3, h4, h5⟩ := atI_get he
  obtain ⟨w, ew, rw'⟩ := r.get h2
  have hl := r.length
  have hn := line63
  have fin : EP X pins σ Q w s := ⟨z, H, I, rw', q⟩
  by_cases h0 : 0 ≤ i
  · have hj : i.toNat = j := by
      rw [seqIndex_of h0 h5] at h1
      exact Option.some.inj h1
    exact item_listR pl.isList h0 (by omega) (by rw [hj]; simpa using ew) fin hs
  · have hj : (i + (its.toArray.size : Int)).toNat = j := by
      rw [seqIndex_neg (by omega) h4] at h1
      rw [List.size_toArray, ← hl]
      exact Option.some.inj h1
    exact subscriptTail_builtinR (x := w) pl.isList.typeIs slot_list_getitem.lookup
      (wpAny_getItem_list_neg (Q := fun r s' => r = w ∧ EP X pins σ Q r s') pl.isList (by omega) (by rw [List.size_toArray] <;> omega) (by omega) (by rw [hj]; simpa using ew) ⟨rfl, fin⟩) hs
theorem ix_tup : IxR X (rIxT X.K) := by
  intro value slice pins s σ H x y v u Q I rx ry h hs
  obtain ⟨p, xs, i, z, rfl, rfl, hq, he, q⟩ := h
  cases rx
  obtain ⟨t, rfl⟩ := ry
  obtain ⟨its, r, pl, hz⟩ := I.tuple hq
  obtain ⟨j, h1, h2, h3, h4, h5⟩ := atI_get he
  obtain ⟨w, ew, rw'⟩ := r.get h2
  have hl := r.length
  have hn := line63
  have fin : EP X pins σ Q w s := ⟨z, H, I, rw', q⟩
  exact subscriptTail_builtinR (x := w) pl.typeIs slot_tuple_getitem.lookup
    (getItem_tuple (j := j) (Q := fun r s' => r = w ∧ EP X pins σ Q r s') pl (by omega) (by omega) (by rw [List.size_toArray, ← hl]; exact h1) (by simpa using ew) ⟨rfl, fin⟩) hs
theorem mapSeq_set (its : List Value) (n j : Nat) (u : Value) : Obj.mapSeq (·.setIfInBounds j u) { cls := .type "list", data := .seq its.toArray n } = { cls := .type "list", data := .seq (its.set j u).toArray n } := by
  simp [Obj.mapSeq]
theorem Inv.lst {pins : List (Addr × Obj)} {σ : St} {H : Hp} {s : Shared} {p : Addr} {xs : List V} (I : Inv X pins σ H s) (h : H p = some (.lst xs)) :
    ∃ (its : List Value) (n : Nat), Vals xs its ∧ s.heap.get? p = some { cls := .type "list", data := .seq its.toArray n } ∧ xs.length ≤ sizeLine := by
  obtain ⟨z, its, n, r, e⟩ := I.hok p _ h
  exact ⟨its, n, r, e, z⟩
theorem Inv.lstUpd {pins : List (Addr × Obj)} {σ : St} {H : Hp} {s : Shared} {p : Addr} {xs ys : List V} {its its' : List Value} {n n' : Nat} {f : Obj → Obj} (I : Inv X pins σ H s) (h : H p = some (.lst xs))
    (ho : s.heap.get? p = some { cls := .type "list", data := .seq its.toArray n }) (hf : f { cls := .type "list", data := .seq its.toArray n } = { cls := .type "list", data := .seq its'.toArray n' }) (r : Vals ys its') (hz : ys.length ≤ sizeLine) (t : Nat) :
    Inv X pins σ (upd H p (.lst ys)) { s with heap := s.heap.update p f, toks := t } := by
  have e : (s.heap.update p f).get? p = some { cls := .type "list", data := .seq its'.toArray n' } := by
    rw [Heap.get?_update_self f ho (by rw [hf] <;> rfl), hf]
  refine I.write (x := p) (e := p) (by rw [h]; trivial) (.inl rfl) (fun b u hb q => (Heap.get?_update_other _ _ (Ne.symm hb)).trans q) ⟨_, e⟩ ?_
  exact ⟨hz, its', n', r, e⟩
def rSetL : V → V → V → Hp → (Hp → Prop) → Prop := fun o i v H Q => ∃ p xs k j, o = .ref p ∧ i = .int k ∧ H p = some (.lst xs) ∧ ixN xs.length k = some j ∧ Q (upd H p (.lst (xs.set j v)))
theorem set_list : PSet X rSetL := by
  intro pins s σ H o i v ov iv u Q I ro ri rv h
  obtain ⟨p, xs, k, j, rfl, rfl, hp, hj, q⟩ := h
  cases ro
  obtain ⟨t, rfl⟩ := ri
  obtain ⟨its, n, r, ho, hz⟩ := I.lst hp
  obtain ⟨h1, h2, h3, h4⟩ := ixN_seq hj
  have hl := r.length
  have hn := line63
  have I' : Inv X pins σ (upd H p (.lst (xs.set j v))) { s with heap := s.heap.update p (Obj.mapSeq (·.setIfInBounds j u)) } :=
    I.lstUpd hp ho (mapSeq_set its n j u) (r.set rv j) (by rw [List.length_set]; exact hz) s.toks
  by_cases h0 : 0 ≤ k
  · have hk : k.toNat = j := by
      rw [seqIndex_of h0 h4] at h1
      exact Option.some.inj h1
    exact PySem.W.ki_setAt ho h0 (by omega) (by rw [List.size_toArray, ← hl]; exact h4) (by rw [hk]; exact ⟨_, I', q⟩)
  · have hk : (k + (its.toArray.size : Int)).toNat = j := by
      rw [seqIndex_neg (by omega) h3] at h1
      rw [List.size_toArray, ← hl]
      exact Option.some.inj h1
    exact PySem.W.ki_setBack ho (by omega) (by rw [List.size_toArray, ← hl]; exact h3) (by omega) (by rw [hk]; exact ⟨_, I', q⟩)
theorem slice_bounds (lo hi : Option Int) (n : Nat) : (sliceBounds lo hi none n).1 = ((HT.sIx n 0 lo : Nat) : Int) ∧ (sliceBounds lo hi none n).2.1 = ((HT.sIx n n hi : Nat) : Int) ∧ (sliceBounds lo hi none n).2.2 = 1 := by
  refine ⟨?_, ?_, rfl⟩
  · cases lo with
    | none => simp [sliceBounds, HT.sIx]
    | some i =>
      simp only [sliceBounds, HT.sIx, Option.getD_none, show (1 : Int) > 0 by decide, if_true]
      by_cases h : i < 0
      · simp only [h, if_true] <;> omega
      · simp only [h, if_false] <;> omega
  · cases hi with
    | none => simp [sliceBounds, HT.sIx]
    | some i =>
      simp only [sliceBounds, HT.sIx, Option.getD_none, show (1 : Int) > 0 by decide, if_true]
      by_cases h : i < 0
      · simp only [h, if_true] <;> omega
      · simp only [h, if_false] <;> omega
theorem slicePick_cut (its : List Value) (lo hi : Option Int) : slicePick its.toArray lo hi none = ((its.drop (HT.sIx its.length 0 lo)).take (HT.sIx its.length its.length hi - HT.sIx its.length 0 lo)).toArray := by
  obtain ⟨h1, h2, h3⟩ := slice_bounds lo hi its.toArray.size
  unfold slicePick
  rw [h1, h2, h3]
  simp only [sliceRange_one, pick_run, List.size_toArray] <;> rfl
def rSlL (K : PySem.W.Frag) : V → Option Int → Option Int → Hp → VK → Prop := fun x lo hi H Q => ∃ a xs, x = .ref a ∧ SqL K H a xs ∧ ∀ p, H p = none → Q (.ref p) (upd H p (.lst (cutV xs lo hi)))
theorem sl_list : SlR X (rSlL X.K) := by
  intro pins s σ H x v vl vu lo hi sl Q I rx hs pl pu h
  obtain ⟨a, xs, rfl, hx, q⟩ := h
  cases rx
  obtain ⟨its, r, ht, hz⟩ := I.list hx
  have hlen := r.length
  refine ⟨"list", _, slot_list_getitem.lookup, ht.isList.typeIs, ?_⟩
  refine wpAny_getItem_list_slice ht.isList hs pl pu .none (by simp) ?_ (by rw [List.size_toArray] <;> omega)
  rw [slicePick_cut, ← hlen]
  refine ⟨.ref s.heap.objs.size, _, I.laid (t' := s.toks) (o := .lst (cutV xs lo hi)) (fun b ob q => Heap.get?_push_of_some _ q) (Nat.le_refl _) ?_, rfl, q _ (I.hok.fresh (Nat.le_refl _))⟩
  exact ⟨Nat.le_trans (cutV_length xs lo hi) hz, _, 0, (r.drop (HT.sIx xs.length 0 lo)).take (HT.sIx xs.length xs.length hi - HT.sIx xs.length 0 lo), Heap.get?_push_size _ rfl⟩
theorem call_list_of : CallR X (.type "list") (fun xs H Q => ∃ p ys, xs = [.ref p] ∧ (SqL X.K H p ys ∨ SqT X.K H p ys) ∧ ∀ l, H l = none → Q (.ref l) (upd H l (.lst ys))) := by
  intro pins s σ H xs us Q I r h
  obtain ⟨p, ys, rfl, hq, q⟩ := h
  obtain ⟨u, rfl, rx⟩ := vals1 r
  cases rx
  have fin : ∀ (its : List Value), Vals ys its → ys.length ≤ sizeLine → ∀ (h' : Heap) (c' : Nat), (∀ b o', s.heap.get? b = some o' → h'.get? b = some o') →
      h'.get? s.heap.objs.size = some { cls := .type "list", dict := none, data := .seq its.toArray c', slots := #[] } → EP X pins σ Q (.ref s.heap.objs.size) { s with heap := h' } := fun its r' hz h' c' kp e =>
    ⟨.ref s.heap.objs.size, _, I.laid (t' := s.toks) kp (Nat.le_refl _) (show ObjOk X.prog X.w _ h' _ (.lst ys) from ⟨hz, its, c', r', e⟩), rfl, q _ (I.hok.fresh (Nat.le_refl _))⟩
  rcases hq with hq | hq
  · obtain ⟨its, r', pl, hz⟩ := I.list hq
    have hlen := r'.length
    obtain ⟨o, ho, hc, n, hd⟩ := pl.isList
    exact call_list_seq p (.inl rfl) ho hc hd (fun h' c' kp e => fin its r' hz h' c' kp e) (by simp only [List.size_toArray] <;> omega)
  · obtain ⟨its, r', pl, hz⟩ := I.tuple hq
    have hlen := r'.length
    obtain ⟨o, ho, hc, n, hd⟩ := pl
    exact call_list_seq p (.inr rfl) ho hc hd (fun h' c' kp e => fin its r' hz h' c' kp e) (by simp only [List.size_toArray] <;> omega)
theorem call_tuple_of : CallR X (.type "tuple") (fun xs H Q => ∃ p ys, xs = [.ref p] ∧ ((SqL X.K H p ys ∧ ∀ l, H l = none → Q (.ref l) (upd H l (.tup ys))) ∨ (SqT X.K H p ys ∧ Q (.ref p) H))) := by
  intro pins s σ H xs us Q I r h
  obtain ⟨p, ys, rfl, h⟩ := h
  obtain ⟨u, rfl, rx⟩ := vals1 r
  cases rx
  rcases h with ⟨hq, q⟩ | ⟨hq, q⟩
  · obtain ⟨its, r', pl, hz⟩ := I.list hq
    have hlen := r'.length
    refine call_tuple_list pl.isList (fun h' kp => ?_) (by simp only [List.size_toArray] <;> omega)
    have I1 : Inv X pins σ H { s with heap := h' } := I.kept (t' := s.toks) kp
    have I2 : Inv X pins σ (upd H h'.objs.size (.tup ys)) { s with heap := h'.push { cls := .type "tuple", data := .seq its.toArray } } :=
      I1.laid (t' := s.toks) (fun b o e => Heap.get?_push_of_some _ e) (Nat.le_refl _) (show ObjOk X.prog X.w _ _ _ (.tup ys) from ⟨hz, its, r', IsTup.new _ _⟩)
    exact ⟨.ref h'.objs.size, _, I2, rfl, q _ (I1.hok.fresh (Nat.le_refl _))⟩
  · obtain ⟨its, r', pl, hz⟩ := I.tuple hq
    exact call_tuple_same pl ⟨.ref p, H, I, rfl, q⟩
def tyV (K : PySem.W.Frag) (T : String) (x : V) (H : Hp) : Prop := match x with
  | .str _ => T = "str"
  | .int _ => T = "int"
  | .ref p => (T = "list" ∧ ∃ xs, SqL K H p xs) ∨ (T = "tuple" ∧ ∃ o, K.lookup p = some o ∧ o.cls = .type "tuple" ∧ o.dict = none) ∨
      (T = "dict" ∧ ((∃ kvs, H p = some (.dK kvs)) ∨ ∃ kvs, H p = some (.dT kvs))) ∨ (T = "set" ∧ ∃ S n, H p = some (.set S n))
  | _ => False
theorem tyV_is {pins : List (Addr × Obj)} {σ : St} {H : Hp} {s : Shared} {T : String} {x : V} {v : Value} (I : Inv X pins σ H s) (r : RelV x v) (ty : tyV X.K T x H) :
    s.TypeIs v T ∧ ∀ a, v = .ref a → ∃ ob, s.heap.get? a = some ob ∧ ob.dict = none := by
  cases x with
  | str z =>
    obtain ⟨t, rfl⟩ := r
    cases (show T = "str" from ty)
    exact ⟨typeIs_str s z t, fun _ e => nomatch e⟩
  | int i =>
    obtain ⟨t, rfl⟩ := r
    cases (show T = "int" from ty)
    exact ⟨typeIs_int s i t, fun _ e => nomatch e⟩
  | ref p =>
    cases r
    rcases ty with ⟨rfl, xs, hq⟩ | ⟨rfl, o, hk, hc, hd⟩ | ⟨rfl, hk⟩ | ⟨rfl, S, n, hk⟩
    · obtain ⟨its, _, pl, _⟩ := I.list hq
      refine ⟨pl.isList.typeIs, fun a e => ?_⟩
      cases e
      obtain ⟨o, n, e, c, hd, _⟩ := pl
      exact ⟨o, e, hd⟩
    · refine ⟨⟨o, I.kIn p o hk, hc⟩, fun a e => ?_⟩
      cases e
      exact ⟨o, I.kIn _ o hk, hd⟩
    · have z : ∃ o, s.heap.get? p = some o ∧ o.ExactDict := by
        rcases hk with ⟨kvs, hk⟩ | ⟨kvs, hk⟩
        · obtain ⟨_, _, _, _, o, _, _, e, ex, _⟩ := I.hok p _ hk
          exact ⟨o, e, ex⟩
        · obtain ⟨_, _, _, _, o, _, _, e, ex, _⟩ := I.hok p _ hk
          exact ⟨o, e, ex⟩
      obtain ⟨o, e, ex⟩ := z
      refine ⟨⟨o, e, ex.1⟩, fun a e2 => ?_⟩
      cases e2
      exact ⟨o, e, ex.2.1⟩
    · obtain ⟨o, _, _, _, e, ex, _⟩ := I.hok p _ hk
      refine ⟨⟨o, e, ex.1⟩, fun a e2 => ?_⟩
      cases e2
      exact ⟨o, e, ex.2.1⟩
  | _ => exact False.elim ty
def tBM (K : PySem.W.Frag) (T : String) (r : V → List V → Hp → VK → Prop) (to : TE) (t : TA) : TE := fun σ H Q => to σ H fun x H1 => tyV K T x H1 ∧ t σ H1 fun xs H2 => r x xs H2 Q
variable {o e : Expr} {es : List Expr} {to : TE} {t : TA} {name : Str} {apos cpos : Pos} {T id : String} {r : V → List V → Hp → VK → Prop}
theorem pe_bm (pa : PlainAttrs T) (slot : Slot T name id) (hty : typeOf (.builtin id) = pure (.type "method_descriptor")) (hm : MtR X id r) (ho : PE X o to) (ha : PA X (e :: es) t)
    (hbase : attributeBase o name X.env (eval o X.env) = eval o X.env := by rfl)
    (hfew : ((backTo cpos (starEach (e :: es) X.env)).all (fun x => !x.1) && (backToKw cpos (keywordEach [] X.env)).all (fun x => x.1.isSome)
      && decide ((e :: es).length + ([] : List Keyword).length + (if ([] : List Keyword).isEmpty then 0 else 1) < 30)) = true := by rfl)
    (hline : (apos.endLine == cpos.line) = true := by rfl) (hs : starEach (e :: es) X.env = (false, eval e X.env) :: starEach es X.env := by rfl) (hplain : (backTo cpos (starEach es X.env)).any (·.1) = false := by rfl) :
    PE X (.Call (.Attribute o name apos) (e :: es) [] cpos) (tBM X.K T r to t) := by
  intro pins s σ H Q I h
  refine wpAny_Call_method_late hbase hfew hline rfl (thn (ho pins s σ H _ I h) fun v s1 ⟨x, H1, I1, r1, ty, q1⟩ => ?_)
  obtain ⟨h1, h2⟩ := tyV_is I1 r1 ty
  refine ⟨T, id, pa, slot, hty, h1, h2, ?_⟩
  have hA := ha cpos pins s1 σ H1 _ I1 q1
  rw [hs] at hA ⊢
  refine Calls.callWith_builtin (by show (false || (backTo cpos (starEach es X.env)).any (·.1)) = false; rw [hplain] <;> rfl) (Calls.evalArgs_plain ?_)
  exact thn hA fun us s2 ⟨vs, H2, I2, r2, q2⟩ => hm pins s2 σ H2 x vs v us Q I2 r1 r2 q2
end
end L2
namespace L2
open PySem PySem.Spec PyProof.Rows
def MtM (X : Cx) (id : String) (r : V → List V → Hp → VK → Prop) : Prop :=
  ∀ (pins : List (Addr × Obj)) (s : Shared) (σ : St) (H : Hp) (x : V) (xs : List V) (v : Value) (us : List Value) (Q : VK), Inv X pins σ H s → RelV x v → Vals xs us → r x xs H Q →
    wpAny (model X.prog X.w) X.A (call (.builtin id) (v :: us)) (EP X pins σ Q) X.xe s
theorem Vals.one : ∀ {x : V} {us : List Value}, Vals [x] us → ∃ u, us = [u] ∧ RelV x u
  | _, _, .cons r .nil => ⟨_, rfl, r⟩
theorem Vals.rep {xs : List V} {us : List Value} (h : Vals xs us) : ∀ k : Nat, Vals (List.replicate k xs).flatten (List.replicate k us).flatten
  | 0 => .nil
  | k + 1 => by
    rw [List.replicate_succ, List.replicate_succ, List.flatten_cons, List.flatten_cons]
    exact Vals.append h (Vals.rep h k)
theorem foldl_rep (its : List Value) : ∀ (k : Nat) (acc : List Value),
    List.foldl (fun x1 x2 => x1 ++ x2) acc.toArray (List.replicate k its.toArray) = (acc ++ (List.replicate k its).flatten).toArray
  | 0, acc => by simp
  | k + 1, acc => by
    have e : acc.toArray ++ its.toArray = (acc ++ its).toArray := by simp
    have e2 : (acc ++ its) ++ (List.replicate k its).flatten = acc ++ (List.replicate (k + 1) its).flatten := by
      rw [List.replicate_succ, List.flatten_cons, List.append_assoc]
    rw [← e2, ← foldl_rep its k (acc ++ its), ← e, List.replicate_succ, List.foldl_cons]
section
variable {X : Cx} {pins : List (Addr × Obj)} {σ : St} {H : Hp} {s : Shared} {l b : Addr} {xs ys zs : List V}
theorem Inv.lset {its its' : List Value} {n : Nat} {f : Array Value → Array Value} {t' : Nat} (I : Inv X pins σ H s) (hH : H l = some (.lst xs))
    (e : s.heap.get? l = some { cls := .type "list", data := .seq its.toArray n }) (hf : f its.toArray = its'.toArray) (hv : Vals ys its') (hz : ys.length ≤ sizeLine) :
    Inv X pins σ (upd H l (.lst ys)) { s with heap := s.heap.update l (Obj.mapSeq f), toks := t' } := by
  have q := PySem.IsL.update e f
  rw [hf] at q
  refine I.write (x := l) (e := l) (by rw [hH]; exact trivial) (.inl rfl) (fun b' u hb hu => (Heap.get?_update_other s.heap (Obj.mapSeq f) (Ne.symm hb)).trans hu) ⟨_, q⟩ ?_
  exact ⟨hz, its', _, hv, q⟩
theorem Inv.lnew {its : List Value} {t' : Nat} (I : Inv X pins σ H s) (hv : Vals ys its) (hz : ys.length ≤ sizeLine) :
    Inv X pins σ (upd H s.heap.objs.size (.lst ys)) { s with heap := s.heap.push { cls := .type "list", data := .seq its.toArray }, toks := t' } :=
  I.laid (fun _ _ q => Heap.get?_push_of_some _ q) (Nat.le_refl _) ⟨hz, its, 0, hv, Heap.get?_push_size _ rfl⟩
theorem Inv.fresh (I : Inv X pins σ H s) : H s.heap.objs.size = none := I.hok.fresh (Nat.le_refl _)
theorem Inv.lstM (I : Inv X pins σ H s) (hH : H l = some (.lst xs)) : xs.length ≤ sizeLine ∧ ∃ (its : List Value) (n : Nat), Vals xs its ∧ xs.length = its.length ∧ s.heap.get? l = some { cls := .type "list", data := .seq its.toArray n } := by
  obtain ⟨z, its, n, r, e⟩ := I.hok l _ hH
  exact ⟨z, its, n, r, r.length, e⟩
theorem notLongL {n : Nat} (h : n ≤ sizeLine) : Builtin.List.listTooLong n = false := by
  unfold Builtin.List.listTooLong
  exact decide_eq_false (by omega)
end
section
variable {X : Cx}
def rAppend : V → List V → Hp → VK → Prop := fun x vs H Q => ∃ l xs y, x = .ref l ∧ vs = [y] ∧ H l = some (.lst xs) ∧ xs.length < sizeLine ∧ Q .non (upd H l (.lst (xs ++ [y])))
theorem mt_append : MtM X "list.append" rAppend := by
  intro pins s σ H x vs v us Q I rx rv h
  obtain ⟨l, xs, y, rfl, rfl, hH, hz, q⟩ := h
  cases rx
  obtain ⟨u, rfl, ru⟩ := rv.one
  obtain ⟨z, its, n, r, hl, e⟩ := I.lstM hH
  refine call_meets F.slot_list_append ⟨_, e, rfl⟩ F.entry_list_append (F.args_list_append_2 _ _) (PySem.list_append l its.toArray n u (by rw [List.size_toArray]; omega)) ⟨e, ?_⟩
  refine ⟨.non, _, I.lset (its' := its ++ [u]) hH e (by simp) (r.append (.cons ru .nil)) ?_, rfl, q⟩
  rw [List.length_append, List.length_singleton]
  omega
def rRep : R2 := fun x y H Q => ∃ l k xs, x = .ref l ∧ y = .int k ∧ H l = some (.lst xs) ∧ -(2 ^ 63) ≤ k ∧ k < 2 ^ 63 ∧ xs.length * k.toNat ≤ sizeLine ∧
  ∀ p, H p = none → Q (.ref p) (upd H p (.lst (List.replicate k.toNat xs).flatten))
theorem len_rep {α : Type} (xs : List α) (k : Nat) : (List.replicate k xs).flatten.length = k * xs.length := by
  induction k with
  | zero => simp
  | succ k ih => rw [List.replicate_succ, List.flatten_cons, List.length_append, ih, Nat.succ_mul, Nat.add_comm]
theorem op_rep : OpR X (binaryOp .Mult) rRep := by
  intro pins s σ H x y v u Q I rx ry h
  obtain ⟨l, k, xs, rfl, rfl, hH, h1, h2, hz, q⟩ := h
  cases rx
  obtain ⟨t, rfl⟩ := ry
  obtain ⟨z, its, n, r, hl, e⟩ := I.lstM hH
  have hlen : its.toArray.size * k.toNat ≤ sizeLine := by rw [List.size_toArray, ← hl]; exact hz
  have hcap : ¬ its.toArray.size * k.toNat > (2 ^ 63 - 1) / 8 := by
    have : (sizeLine : Nat) ≤ (2 ^ 63 - 1) / 8 := by decide
    omega
  have hfit : ¬ (!Builtin.List.listFitsIndex k) = true := by
    rw [fitsIndex_both h1 h2]
    exact Bool.false_ne_true
  have hlong : ¬ Builtin.List.listTooLong (its.toArray.size * k.toNat) = true := by
    rw [notLongL hlen]
    exact Bool.false_ne_true
  have hnew : List.foldl (fun x1 x2 => x1 ++ x2) #[] (List.replicate (if its.toArray.isEmpty = true then 0 else k.toNat) its.toArray) = (List.replicate k.toNat its).flatten.toArray := by
    have f0 : ∀ m : Nat, List.foldl (fun x1 x2 => x1 ++ x2) #[] (List.replicate m its.toArray) = (List.replicate m its).flatten.toArray := fun m => by
      have := foldl_rep its m []
      rw [List.nil_append] at this
      exact this
    rw [f0]
    cases its with
    | nil => simp
    | cons a r' => rw [if_neg (by simp)]
  refine wpAny_binaryOp_repeat_ref (T := "list") (U := "int") (by decide) ⟨_, e, rfl⟩ (fun s' => typeIs_int s' k t) noFill_list_mul F.fills_int_mul F.slot_int_rmul repeat_list F.slot_int_index.lookup
    (call_meets F.slot_int_rmul (typeIs_int s k t) F.entry_int_rmul (F.args_int_rmul_2 _ _) (int___rmul___int_list k t l its.toArray n)
      ⟨e, rfl, ⟨_, e, rfl⟩, call_meets F.slot_list_mul ⟨_, e, rfl⟩ F.entry_list_mul (F.args_list_mul_2 _ _) (AutoListH.list___mul___list_int_3 l its.toArray n k t hfit hcap hlong) ⟨e, ?_⟩⟩)
  rw [hnew]
  exact ⟨.ref _, _, I.lnew (t' := s.toks) (r.rep k.toNat) (by rw [len_rep, Nat.mul_comm]; exact hz), rfl, q _ I.fresh⟩
end
end L2
namespace Att
open PySem PySem.W PySem.Calls PyProof.Rows
theorem ints_of_wellAll {P : Params} {h : Heap} : ∀ (ns : List Int) (vs : List Value), WellAll P h vs (ns.map WData.int) → IntsAre vs ns := by
  intro ns
  induction ns with
  | nil =>
    intro vs w
    rw [List.map_nil] at w
    cases w
    exact .nil
  | cons n ns ih =>
    intro vs w
    rw [List.map_cons] at w
    cases w with
    | cons a b =>
      cases a
      exact .cons _ _ (ih _ b)
theorem script_of {l : OpenLaw} {n : Nat} (hn : l.most = some n) {P : Params} {h : Heap} {args : List WData} {vals : List Value}
    (hpre : l.row.toRowW.claim.pre args = true) (hwl : WellAll P h vals args) :
    ∃ a vs ns, vals = [Value.ref a] ∧ args = [WData.list (ns.map WData.int)] ∧ h.get? a = some { cls := .type "list", data := .seq vs.toArray } ∧ IntsAre vs ns ∧ ns.length ≤ n := by
  have hsh : WShape.hasAll [] args [.list .int] = true := (pre_splitW hpre).1
  have hc : l.pre.holds [] { args := args } = true := (pre_splitW hpre).2
  obtain ⟨d, r, rfl, h1, h2⟩ := hasAllW_cons hsh
  obtain rfl := hasAllW_nil h2
  obtain ⟨xs, rfl, h3⟩ := hasW_list h1
  obtain ⟨ns, rfl⟩ := items_int h3
  have hlen : ns.length ≤ n := by
    unfold OpenLaw.pre at hc
    have h4 : (WTm.not (.lt (.lit (.int (n : Int))) (.len (.arg 0)))).holds [] { args := [.list (ns.map .int)] } = true := by
      have h4 := (holds_andW hc).1
      rw [hn] at h4
      exact h4
    have h5 := condW_of h4 (w_not (w_lt w_lit (w_len_list (w_arg rfl))))
    rw [List.length_map] at h5
    refine Nat.le_of_not_lt fun q => ?_
    have q' : (n : Int) < ((ns.length : Nat) : Int) := by omega
    first
      | (rw [decide_eq_true q'] at h5; exact absurd h5 (by decide))
      | (simp at h5; omega)
  cases hwl with
  | cons w1 w2 =>
    cases w2
    cases w1 with
    | list ho hall => exact ⟨_, _, ns, rfl, rfl, ho, ints_of_wellAll ns _ hall, hlen⟩
theorem post_true (l : OpenLaw) (args : List WData) : l.row.toRowW.claim.post args (.bool true) args = true :=
  postW_of (r := l.row.toRowW) (X := (true == true))
    (show WShape.has [] (.bool true) .bool = true by first | rfl | decide | simp [WShape.has, WShape.arms, WShape.armsAll])
    (show (WTm.eq .res (.lit (.bool true))).value [] { args := args, res := some (.bool true), after := args } = some (.bool (true == true)) from w_eq_bool (w_res rfl) w_lit) rfl
theorem attach_call {l : OpenLaw} {n : Nat} {q : Program} {loose : List Str} {XP : (Str → Option Value) → Heap → Prop} {YP : World → Heap → Prop} {d : DefRec}
    (hn : l.most = some n) (hdf : d.params.defaults = [])
    (call : ∀ (w : World) (s₀ s₁ : Shared) (mg mb : Str → Option Value) (fa : Addr) (o : Obj) (pm cd doc : Value) (a : Addr) (vs : List Value) (ns : List Int),
      Ground q loose [] XP w s₀ mg mb s₁.heap → YP w s₁.heap →
      s₁.heap.get? fa = some o → o.data = .func (docDef d.name d.params d.body d.scope pm cd doc) → s₁.heap.CodeRec cd d.name → mg d.name = some (.ref fa) →
      s₁.heap.get? a = some { cls := .type "list", data := .seq vs.toArray } → IntsAre vs ns → ns.length ≤ n → s₁.gens = #[] →
      codeAny (model l.prog w) callerA (.call (.ref fa) ⟨[.ref a], []⟩) (fun r s' => r = .ok (.ret (.bool true)) ∧ OldK s₁.heap s'.heap ∧ s'.os = s₁.os ∧ AllBare s'.gens) s₁) :
    WalkO q loose XP YP l.row.toRowW d [] (fun f vs => PySem.call f vs) := by
  intro w s₀ s₁ mg mb G Y fa o pm cd doc dV kV ho hd hcd hD hmg hg args vals as hpre hlay hrd hwl hlo
  obtain rfl : dV = .none := Dflts.none hD hdf
  obtain rfl : kV = .none := Dflts.noKw hD
  obtain ⟨a, vs, ns, rfl, rfl, hobj, hints, hlen⟩ := script_of hn hpre hwl
  refine enter_call (codeAny_mono (call w s₀ s₁ mg mb fa o pm cd doc a vs ns G Y ho (fd_plain hd) hcd hmg hobj hints hlen hg) fun r s' hq => ?_)
  obtain ⟨rfl, h2, h3, h4⟩ := hq
  exact ⟨.inl ⟨.bool true, .bool true, [], rfl, fun _ => rfl, .bool true, post_true l _, fun _ => ⟨List.Pairwise.nil, fun _ hm => (nomatch hm)⟩⟩, h2, h3, h4⟩
end Att
namespace L2
open PySem PySem.Spec PyProof.Rows
theorem vals_ints : ∀ {vs : List Value} {ns : List Int}, IntsAre vs ns → Vals (ns.map V.int) vs
  | _, _, .nil => .nil
  | _, _, .cons n t h => .cons ⟨t, rfl⟩ (vals_ints h)
def Only (H : Hp) : Prop := ∀ b, H b = none ∨ ∃ o xs, H b = some (.frz o (.lst xs))
theorem law_call {P : Program} {w : World} {K : PySem.W.Frag} {mg mb : Str → Option Value} {CX : CXT} {k : Nat} {fa a : Addr} {fd : FuncData} {x : Str} {sp : Sp} {s₁ : Shared} {vs : List Value} {ns : List Int}
    (KX : K.In s₁.heap) (hns : s₁.heap.Ns mainGlobals mg) (hb : s₁.heap.Ns builtinsNs mb) (hbb : ∀ x : Str, x ≠ "__name__" → mb x = bootBuiltins x) (hlim : s₁.heap.NoLimit) (hg : s₁.gens = #[])
    (ha : s₁.heap.get? a = some { cls := .type "list", data := .seq vs.toArray }) (hi : IntsAre vs ns) (hl : ns.length ≤ sizeLine) (hr : Room k callerA)
    (F : ∀ base : Heap, K.In base → base.Ns mainGlobals mg → FnOk P w K mg base CX k fa fd [x] sp) (hbind : ∀ (s : Shared) (u : Value), BindsTo s fd ⟨[u], []⟩ [(x, u)])
    (hsp : ∀ H : Hp, Only H → SqL K H a (ns.map V.int) → sp [.ref a] H (fun v _ => v = .bl true) fun _ _ _ => False)
    (hCX : ∀ H e s', CX [] H s₁ (fun _ _ _ => False) e s' → False) :
    codeAny (model P w) callerA (.call (.ref fa) ⟨[.ref a], []⟩) (fun r s' => r = .ok (.ret (.bool true)) ∧ OldK s₁.heap s'.heap ∧ s'.os = s₁.os ∧ AllBare s'.gens) s₁ := by
  have rv := vals_ints hi
  have lenV := hi.length

  have core : ∀ H : Hp, Only H → SqL K H a (ns.map V.int) → HOk P w H s₁.heap → (∀ b, H b ≠ none → b = a) → (H a ≠ none → K.lookup a = none) →
      codeAny (model P w) callerA (.call (.ref fa) ⟨[.ref a], []⟩) (fun r s' => r = .ok (.ret (.bool true)) ∧ OldK s₁.heap s'.heap ∧ s'.os = s₁.os ∧ AllBare s'.gens) s₁ := by
    intro H hO hS hok hA hK
    have base_of : ∀ {b : Addr} {o : Obj}, s₁.heap.get? b = some o → H b = none → (hidT s₁.heap H).get? b = some o := fun e n => hidT_get e n
    have noA : ∀ {b : Addr} {o : Obj} {es : Array DictEntry} {ep : Nat}, s₁.heap.get? b = some o → o.data = .dict es ep → H b = none := fun {b o es ep} e d => by
      cases q : H b with
      | none => rfl
      | some u =>
        have e' : b = a := hA b (by rw [q]; simp)
        subst e'
        rw [ha] at e; cases e
        have d' : Data.seq vs.toArray _ = Data.dict es ep := d
        cases d'
    have nsK : ∀ {b : Addr} {m : Str → Option Value}, s₁.heap.Ns b m → (hidT s₁.heap H).Ns b m := fun {b m} ⟨o, es, ep, e, d, r⟩ => ⟨o, es, ep, base_of e (noA e d), d, r⟩
    have hKb : K.In (hidT s₁.heap H) := fun b o e => base_of (KX b o e) (by
      cases q : H b with
      | none => rfl
      | some u =>
        have e' : b = a := hA b (by rw [q]; simp)
        subst e'
        rw [hK (by rw [q]; simp)] at e; cases e)
    have hM : Mod K mg (hidT s₁.heap H) := ⟨hKb, nsK hns, ⟨mb, nsK hb, hbb⟩, let ⟨mc, h1, h2⟩ := hlim; ⟨mc, nsK h1, h2⟩⟩
    have e0 : Env0 P w K mg (hidT s₁.heap H) callerA [] s₁ H := ⟨rfl, hM, fun b o e => of_hidT e, Nat.le_of_eq (hidT_size _ _), trivial, fun b hb => absurd (show b ∈ ([] : List Addr) from hb) (by simp), hok, .of_eq hg⟩
    refine codeAny_mono ((F _ hKb (nsK hns)).run callerA [] s₁ H ⟨[.ref a], []⟩ [.ref a] [.ref a] _ _ hr e0 (hbind s₁ (.ref a)) (.cons rfl .nil) (hsp H hO hS)) fun r s' h => ?_
    cases r with
    | error e => exact (hCX H e s' h).elim
    | ok fl =>
      cases fl with
      | next => exact False.elim h
      | brk => exact False.elim h
      | cont => exact False.elim h
      | ret u =>
        obtain ⟨v, H', os, bare, un, hok', r', q⟩ := h
        have q' : v = .bl true := q
        subst q'
        obtain rfl : u = Value.bool true := r'
        refine ⟨rfl, OldK.of_keep fun b o e => ?_, os, bare⟩
        cases q : H b with
        | none => exact un.keep b o e q (by intro z; exact absurd (show b ∈ ([] : List Addr) from z) (by simp)) (by simp)
        | some u =>
          rcases hO b with z | ⟨ob, xs, z⟩
          · rw [q] at z; cases z
          · have z2 := un.frzs b ob _ z
            obtain ⟨e1, _⟩ := hok b _ z
            obtain ⟨e2, _⟩ := hok' b _ z2
            rw [e] at e1; cases e1
            exact e2
  cases hk : K.lookup a with
  | some o =>

    have e := KX a o hk
    rw [ha] at e
    cases e
    refine core (fun _ => none) (fun _ => .inl rfl) (.inr ⟨_, vs.toArray, _, hk, rfl, rfl, rfl, by rw [List.size_toArray, lenV]; exact hl, by simpa using rv⟩) (fun b u z => by have z' : (none : Option HO) = some u := z; cases z') (fun b z => absurd rfl z) fun z => absurd rfl z
  | none =>
    refine core (fun b => if b = a then some (.frz { cls := .type "list", data := .seq vs.toArray } (.lst (ns.map V.int))) else none) (fun b => ?_) (.inl (.inr ⟨{ cls := .type "list", data := .seq vs.toArray }, if_pos rfl⟩)) (fun b u z => ?_) (fun b z => ?_) fun _ => hk
    · by_cases hb : b = a
      · exact .inr ⟨_, _, if_pos hb⟩
      · exact .inl (if_neg hb)
    · by_cases hb : b = a
      · have z' := (if_pos hb).symm.trans z
        cases z'
        subst hb
        exact ⟨ha, by rw [List.length_map]; exact hl, vs, _, rv, ha⟩
      · have z' := (if_neg hb).symm.trans z
        cases z'
    · by_cases hb : b = a
      · exact hb
      · exact absurd (if_neg hb) z
end L2
namespace L2
open PySem PySem.Spec PyProof.Rows
theorem walk_of {l : PySem.W.OpenLaw} {n k : Nat} {q : Program} {loose : List Str} {XP : (Str → Option Value) → Heap → Prop} {YP : World → Heap → Prop} {d : DefRec} {K : Params → PySem.W.Frag} {CX : World → CXT} {sp : World → Sp} {x : Str}
    (hn : l.most = some n) (hn2 : n ≤ sizeLine) (hdf : d.params.defaults = []) (hr : Room k callerA)
    (hY : ∀ (w : World) (h : Heap), YP w h → (K w.params).In h)
    (F : ∀ (w : World) (mg : Str → Option Value) (fa : Addr) (h : Heap), (K w.params).In h → h.Ns mainGlobals mg → mg d.name = some (.ref fa) →
      ∃ fd : FuncData, (∀ (s : Shared) (u : Value), BindsTo s fd ⟨[u], []⟩ [(x, u)]) ∧
        ∀ base : Heap, (K w.params).In base → base.Ns mainGlobals mg → FnOk l.prog w (K w.params) mg base (CX w) k fa fd [x] (sp w))
    (hsp : ∀ (w : World) (H : Hp) (a : Addr) (ns : List Int), ns.length ≤ n → Only H → SqL (K w.params) H a (ns.map V.int) → sp w [.ref a] H (fun v _ => v = .bl true) fun _ _ _ => False)
    (hCX : ∀ (w : World) (H : Hp) (s : Shared) (e : Value) (s' : Shared), CX w [] H s (fun _ _ _ => False) e s' → False) :
    PySem.W.WalkO q loose XP YP l.row.toRowW d [] (fun f vs => PySem.call f vs) := by
  refine Att.attach_call hn hdf fun w s₀ s₁ mg mb fa o pm cd doc a vs ns G Y ho hd hcd hmg hobj hints hlen hg => ?_
  have KX := hY w _ Y
  obtain ⟨fd, hb, hF⟩ := F w mg fa _ KX G.T.g hmg
  exact law_call KX G.T.g G.T.b G.T.builtins G.T.nolimit hg hobj hints (Nat.le_trans hlen hn2) hr hF hb (fun H hO hS => hsp w H a ns hlen hO hS) fun H e s' => hCX w H s₁ e s'
end L2
namespace L2
open PySem PySem.Spec PyProof.Rows
def defArgs (s : Stmt) : Arguments := match s with
  | .FunctionDef _ a _ _ _ _ _ _ _ _ => a
  | _ => { posonlyargs := [], args := [], vararg := none, kwonlyargs := [], kw_defaults := [], kwarg := none, defaults := [] }
def defBody (s : Stmt) : List Stmt := match s with
  | .FunctionDef _ _ b _ _ _ _ _ _ _ => b
  | _ => []
def defScope (s : Stmt) : Scope := match s with
  | .FunctionDef _ _ _ _ _ _ sc _ _ _ => sc
  | _ => { kind := .function, names := [], isGenerator := false, isCoroutine := false }
abbrev CX0 : CXT := fun _ _ _ _ _ _ => False
abbrev E0 : XK := fun _ _ _ => False
theorem pass0 {X : Cx} : Passes CX0 X E0 := fun _ _ _ _ _ _ _ h => h.elim
structure Fun (K : PySem.W.Frag) (x qual : Str) (st : Stmt) (f : Addr) (fd : FuncData) : Prop where
  ex : ∃ (oc : Value) (od : Option Addr) (kV doc pm : Value) (an : Option Addr) (cdv ct : Value) (osl : Array (Option Value)),
    fd = PySem.W.fnOf x qual (defArgs st) (defBody st) (defScope st) .none kV doc pm an cdv ct ∧ K.lookup f = some ⟨oc, od, .func fd, osl⟩ ∧ PySem.W.codeIn K cdv qual = true
  kp : PySem.W.keepIn K (.ref f) = true
section
variable {P : Program} {w : World} {K : PySem.W.Frag} {mg : Str → Option Value} {base : Heap}
theorem Fun.ok {x qual : Str} {st : Stmt} {f : Addr} {fd : FuncData} {N ps : List Str} {k : Nat} {sp : Sp} (F : Fun K x qual st f fd) (S : FnScope N ps (defScope st)) (len : ∀ vs H Q E, sp vs H Q E → vs.length = ps.length)
    (hbody : ∀ (cdv : Value) (A : Around) (outer : List Env) (s : Shared) (H : Hp) (vs : List V) (Q : VK) (E : XK), Room k (A.deeper (envOfC qual (defScope st) s.heap.objs.size f cdv)) → sp vs H Q E →
      ∃ t, PSs (cxOf CX0 P w K mg base N qual (defScope st) f cdv A outer s H E).nox (defBody st) t ∧ t { nx := fun _ H' => Q .non H', rt := Q } (start N vs) H) : FnOk P w K mg base CX0 (k + 1) f fd ps sp := by
  obtain ⟨oc, od, kV, doc, pm, an, cdv, ct, osl, rfl, lk, hcd⟩ := F.ex
  refine fn_of lk hcd S len fun A outer s H vs Q E hr hsp => ?_
  obtain ⟨t, h, q⟩ := hbody cdv A outer s H vs Q E hr hsp
  exact ⟨t, h.nox, q⟩
theorem Fun.binds {x qual : Str} {st : Stmt} {f : Addr} {fd : FuncData} {ps : List Str} (F : Fun K x qual st f fd)
    (h : ∀ (kV doc pm : Value) (an : Option Addr) (cdv ct : Value) (us : List Value), us.length = ps.length → bindArgs (PySem.W.fnOf x qual (defArgs st) (defBody st) (defScope st) .none kV doc pm an cdv ct) ⟨us, []⟩ = pure (ps.zip us)) : Binds K fd ps [] := by
  obtain ⟨oc, od, kV, doc, pm, an, cdv, ct, osl, rfl, lk, hcd⟩ := F.ex
  exact .all (h kV doc pm an cdv ct)
theorem fun_mk {x qual : Str} {st : Stmt} {f : Addr} {oc : Value} {od an : Option Addr} {osl : Array (Option Value)} {kV doc pm cdv ct : Value} (l : K.lookup f = some ⟨oc, od, .func (PySem.W.fnOf x qual (defArgs st) (defBody st) (defScope st) .none kV doc pm an cdv ct), osl⟩)
    (c : PySem.W.codeIn K cdv qual = true) (k : PySem.W.keepIn K (.ref f) = true) : Fun K x qual st f (PySem.W.fnOf x qual (defArgs st) (defBody st) (defScope st) .none kV doc pm an cdv ct) := ⟨⟨oc, od, kV, doc, pm, an, cdv, ct, osl, rfl, l, c⟩, k⟩
end
theorem small1000 {n : Nat} (h : n ≤ 1000) : n < sizeLine := Nat.lt_of_le_of_lt h (by decide)
def Same (H H' : Hp) : Prop := ∀ b o, H b = some o → H' b = some o
theorem Same.refl (H : Hp) : Same H H := fun _ _ h => h
theorem Same.trans {H H1 H2 : Hp} (a : Same H H1) (b : Same H1 H2) : Same H H2 := fun c o h => b c o (a c o h)
end L2
namespace L2
open PySem PySem.Spec PyProof.Rows
theorem comp_loop_go {prog : Program} {w : World} {A : Around} {R : Result → Shared → Prop} {s : Shared} {elt target iter : Expr} {ifs : List Expr} {scope : Scope} {pos : Pos} {it acc : Value} {env : Env} (I : Nat → Shared → Prop)
    (turn : ∀ n s, I n s → wpAny (model prog w) A (pyNext it) (fun r s₁ => match r with
      | none => R (.ok .next) s₁
      | some v => wpAny (model prog w) A (letOwnedTupleGo target it v) (fun _ s₁' => wpAny (model prog w) A (assign target env v) (fun _ s₂ =>
          wpAny (model prog w) A (forIn ifs true fun c r => if r = true then do let ok ← isTrue c env (eval c env); pure (ForInStep.yield ok) else pure (ForInStep.yield r)) (fun ok s₃ =>
            if ok = true then wpAny (model prog w) A (eval elt env) (fun x s₄ =>
              wpAny (model prog w) A (call (.builtin "list.append") [acc, x]) (fun _ s₅ => ∃ m, m < n ∧ I m s₅) (notedBy (model prog w) A env fun e s' => R (.error e) s') s₄) (notedBy (model prog w) A env fun e s' => R (.error e) s') s₃
            else ∃ m, m < n ∧ I m s₃) (notedBy (model prog w) A env fun e s' => R (.error e) s') s₂) (notedBy (model prog w) A env fun e s' => R (.error e) s') s₁') (notedBy (model prog w) A env fun e s' => R (.error e) s') s₁) (notedBy (model prog w) A env fun e s' => R (.error e) s') s)
    (n : Nat) (h : I n s) :
    codeAny (model prog w) A (.compLoop (.ListComp elt [⟨target, iter, ifs, 0⟩] scope pos) 0 it acc env) R s := by
  refine codeAny_loop rfl I (fun n s hI => ?_) n h
  show wpAny _ A ((compTurn (.ListComp elt [⟨target, iter, ifs, 0⟩] scope pos) 0 it acc env).onRaise (fun x => do noteFrame x env; theTreesLotGoes x)) _ _ s
  refine wpAny_noted ?_
  rw [compTurn_list]
  refine wpAny_bind (wpAny_standAt (wpAny_bind (wpAny_mono (turn n s hI) (fun r s₁ h₁ => ?_) fun _ _ h' => h')))
  cases r with
  | none => exact wpAny_pure h₁
  | some v =>
    refine wpAny_bind (wpAny_mono h₁ (fun _ s₁' h₁' => ?_) fun _ _ h' => h')
    refine wpAny_bind (wpAny_mono h₁' (fun _ s₂ h₂ => wpAny_bind (wpAny_mono h₂ (fun ok s₃ h₃ => ?_) fun _ _ h' => h')) fun _ _ h' => h')
    cases ok with
    | false => exact wpAny_pure ⟨rfl, h₃⟩
    | true =>
      exact wpAny_bind (wpAny_bind (wpAny_mono h₃ (fun x s₄ h₄ => wpAny_bind (wpAny_mono h₄ (fun _ s₅ h₅ => wpAny_pure (wpAny_pure ⟨rfl, h₅⟩)) fun _ _ h' => h')) fun _ _ h' => h'))
abbrev blk (X : Cx) (scope : Scope) (cl : List (Str × Addr)) (N' : List Str) (C : Addr) (s₀ : Shared) (H₀ : Hp) (ex : List Addr) : Cx :=
  { prog := X.prog, w := X.w, K := X.K, mg := X.mg, base := X.base, A := X.A, N := N', s₀ := s₀, H₀ := H₀, env := compEnvC scope cl C X.env, outer := X.stack, stack := X.stack, ex := ex, fn := fun _ => false, calm := X.calm, pn := [], xe := fun _ _ => False }
def PTs (X : Cx) (ifs : List Expr) (t : TT) : Prop :=
  ∀ (pins : List (Addr × Obj)) (s : Shared) (σ : St) (H : Hp) (Q : Bool → Hp → Prop), Inv X pins σ H s → t σ H Q →
    wpAny (model X.prog X.w) X.A (forIn ifs true fun c r => if r = true then do let ok ← isTrue c X.env (eval c X.env); pure (ForInStep.yield ok) else pure (ForInStep.yield r)) (TP X pins σ Q) X.xe s
def tYes : TT := fun _ H Q => Q true H
theorem pts_nil {X : Cx} : PTs X [] tYes := fun _ _ _ H _ I h => wpAny_tests_nil ⟨H, I, h⟩
def capV (cap : List (Option Nat)) (σ : St) : St := cap.map fun o => o.bind fun j => (σ[j]?).join
structure Blk (X : Cx) (scope : Scope) (cl : List (Str × Addr)) (N' : List Str) (cap : List (Option Nat)) : Prop where
  clos : closureFor scope X.env = pure cl
  cells : ∀ y ∈ scope.names, y.2 ≠ .cell
  kind : scope.kind = .function
  names : ∀ y ∈ scope.names, y.2 = .local → scope.names.lookup y.1 = some .local
  nd : N'.Nodup
  len : cap.length = N'.length
  sub : ∀ x c, cl.lookup x = some c → X.env.cells.lookup x = some c
  has : ∀ x, ((relabel scope X.env).names.lookup x = some .cell ∨ (relabel scope X.env).names.lookup x = some .free) → ∃ c, cl.lookup x = some c
  cap : ∀ (i : Nat) (x : Str) (j : Nat), N'[i]? = some x → cap[i]? = some (some j) → X.N[j]? = some x ∧ Vis X.env.scope x ∧ ((relabel scope X.env).names.lookup x = some .cell ∨ (relabel scope X.env).names.lookup x = some .free) ∧ X.env.scope.names.lookup x ≠ some .local
def LeS : St → St → Prop
  | [], [] => True
  | none :: a, _ :: b => LeS a b
  | some v :: a, u :: b => u = some v ∧ LeS a b
  | _, _ => False
theorem LeS.len : ∀ {a b : St}, LeS a b → a.length = b.length
  | [], [], _ => rfl
  | none :: a, _ :: b, h => congrArg (· + 1) (LeS.len (a := a) (b := b) h)
  | some v :: a, u :: b, h => congrArg (· + 1) (LeS.len (a := a) (b := b) h.2)
  | [], _ :: _, h => h.elim
  | none :: _, [], h => h.elim
  | some _ :: _, [], h => h.elim
theorem LeS.get : ∀ {a b : St}, LeS a b → ∀ (i : Nat) (v : V), a[i]? = some (some v) → b[i]? = some (some v)
  | [], [], _, i, v, e => by simp at e
  | none :: a, _ :: b, h, 0, v, e => by simp at e
  | none :: a, _ :: b, h, i + 1, v, e => by
    rw [List.getElem?_cons_succ] at e ⊢
    exact LeS.get (a := a) (b := b) h i v e
  | some x :: a, u :: b, h, 0, v, e => by
    rw [List.getElem?_cons_zero] at e ⊢
    rw [h.1]; exact e
  | some x :: a, u :: b, h, i + 1, v, e => by
    rw [List.getElem?_cons_succ] at e ⊢
    exact LeS.get (a := a) (b := b) h.2 i v e
  | [], _ :: _, h, _, _, _ => h.elim
  | none :: _, [], h, _, _, _ => h.elim
  | some _ :: _, [], h, _, _, _ => h.elim
def tComp (cap : List (Option Nat)) (wi : TI) (g : TG) (tif : TT) (te : TE) : TE := fun σ H Q => wi σ H fun J H1 => ∃ W : Nat → Nat → List V → Hp → Prop, (∃ m, W 0 m [] H1) ∧ ∀ i m ys H, W i m ys H → ys.length < sizeLine ∧
  ((J.stop i H ∧ ∀ D, H D = none → Q (.ref D) (upd H D (.lst ys))) ∨
   (J.go i H ∧ ∀ x H', J.yld i H x H' → g x (capV cap σ) H' fun σ2 H2 => LeS (capV cap σ) σ2 ∧ tif σ2 H2 fun b H3 => if b = true then te σ2 H3 fun v H4 => ∃ m', m' < m ∧ W (i + 1) m' (ys ++ [v]) H4 else ∃ m', m' < m ∧ W (i + 1) m' ys H3))
theorem pe_comp {X : Cx} {elt tg iter : Expr} {ifs : List Expr} {scope : Scope} {cl : List (Str × Addr)} {pos : Pos} {N' : List Str} {cap : List (Option Nat)} {wi : TI} {g : TG} {tif : TT} {te : TE}
    (hc : X.calm = true) (B : Blk X scope cl N' cap) (hi : PI X tg iter wi)
    (hg : ∀ C s₀ H₀ ex, PG (blk X scope cl N' C s₀ H₀ ex) tg g) (ht : ∀ C s₀ H₀ ex, PTs (blk X scope cl N' C s₀ H₀ ex) ifs tif) (he : ∀ C s₀ H₀ ex, PE (blk X scope cl N' C s₀ H₀ ex) elt te)
    (hs : ∀ x, foldedSetIterable iter X.env x = pure x := by intro _; rfl) :
    PE X (.ListComp elt [⟨tg, iter, ifs, 0⟩] scope pos) (tComp cap wi g tif te) := by
  intro pins s σ H Q I h
  rw [eval_ListComp]
  refine wpAny_comprehension_free (use := none) rfl hs B.clos B.kind B.names (thn (hi pins s σ H _ I h) fun xv s₁ h₁ => thn h₁ fun itv s₂ h₂ => ?_)
  obtain ⟨it, fp, tn, J, H2, e, I2, T, st2, f2, W, ⟨m0, w0⟩, turn⟩ := h₂
  subst e
  refine wpAny_newObj_type (wpAny_newFunctionEnv B.cells (by intro y hy; simp at hy) (fun h₁ hns₁ hsb₁ => ?_) B.kind)
  dsimp only at hns₁ hsb₁ ⊢
  generalize hHH : s₂.heap.push { cls := .type "list", dict := none, data := .seq ([] : List Value).toArray } = HH at hns₁ hsb₁ ⊢
  have hC : HH.objs.size = s₂.heap.objs.size + 1 := by rw [← hHH, Heap.size_push]
  have hDC : s₂.heap.objs.size ≠ HH.objs.size := by rw [hC]; exact Nat.ne_of_lt (Nat.lt_succ_self _)
  have below : ∀ b, b < s₂.heap.objs.size → b ≠ HH.objs.size ∧ b ≠ s₂.heap.objs.size := fun b hb => ⟨by rw [hC]; exact Nat.ne_of_lt (Nat.lt_succ_of_lt hb), Nat.ne_of_lt hb⟩
  have old : ∀ b o, s₂.heap.get? b = some o → h₁.get? b = some o := fun b o e => hsb₁.extBut b o (below b (Heap.lt_size e)).1 (Heap.get?_push_of_some _ (hHH ▸ Heap.get?_push_of_some _ e))
  have hacc : h₁.get? s₂.heap.objs.size = some { cls := .type "list", data := .seq ([] : List Value).toArray } := hsb₁.extBut _ _ hDC (Heap.get?_push_of_some _ (hHH ▸ Heap.get?_push_size _ rfl))
  have hCs : s₂.heap.objs.size ≤ HH.objs.size := by rw [hC]; exact Nat.le_succ _
  generalize hD : s₂.heap.objs.size = D at *
  generalize hCC : HH.objs.size = C at *

  have fpD : ∀ b ∈ fp, b < D := fun b hb => by
    obtain ⟨o, e, _⟩ := T.obj _ _ st2 b hb
    rw [← hD]; exact Heap.lt_size e
  have cellD : ∀ x c, cl.lookup x = some c → c < D := fun x c e => by
    obtain ⟨v, q⟩ := I2.cell x c (B.sub x c e)
    rw [← hD]; exact q.lt
  have fsX : ∀ b ∈ frs X.stack, b ∈ X.env.locals :: X.fs := fun b hb => I2.stkSub b hb
  have ok : (blk X scope cl N' C s₂ H2 fp).Ok := by
    refine ⟨I2.mod, B.kind, I2.ok.glob, I2.ok.blt, ?_, fun x y c h1 h2 => I2.ok.inj x y c (B.sub x c h1) (B.sub y c h2), fun x hx => B.has x hx, fun x c hf => absurd hf (by simp), I2.ok.hd, I2.ok.frames, .inl rfl, fun b hb => ⟨?_, fun x c e z => ?_⟩, I2.bs, Nat.le_trans I2.ok.bsz I2.sz, fun b o e hb => ?_, fun b hb hf => ?_, I2.stack, I2.stkFree⟩
    · show s₂.heap.objs.size ≤ C
      rw [hD]; exact hCs
    · exact Nat.ne_of_lt (Nat.lt_of_lt_of_le (fpD b hb) hCs)
    · exact (f2 b hb).2.2.2.2.1 x c (B.sub x c e) z
    · have h1 := f2 b hb
      rcases h1.2.2.2.1 with z | z
      · exact I2.ok.noex b o e z
      · have h2 := (I2.ok.bs b o e).1
        exact absurd (Nat.lt_of_lt_of_le (Heap.lt_size h2) z) (Nat.lt_irrefl _)
    · rcases List.mem_cons.mp (fsX b hf) with z | z
      · exact (f2 b hb).2.1 z
      · exact (f2 b hb).2.2.1 z
  have freshH : ∀ a, D ≤ a → H2 a = none := fun a ha => I2.hok.fresh (by rw [hD]; exact ha)
  have I4 : Inv (blk X scope cl N' C s₂ H2 fp) [] (capV cap σ) H2 { s₂ with heap := h₁, toks := s₂.toks + ([] : List (Str × Value)).length } := by
    refine ⟨ok, rfl, I2.bare, Un.kept old, ⟨_, hns₁, fun i x v e1 e2 e3 => ?_⟩, fun x c e => ?_, freshH C hCs, fun x c e => I2.freeC x c (B.sub x c e), fun p hp => absurd (show p ∈ ([] : List (Addr × Obj)) from hp) (by simp), I2.hok.kept old, ?_⟩
    · have e1' : N'[i]? = some x := e1
      unfold capV at e2
      rw [List.getElem?_map] at e2
      cases hcap : cap[i]? with
      | none => rw [hcap] at e2; cases e2
      | some o =>
        rw [hcap] at e2
        cases o with
        | none => cases e2
        | some j =>
          obtain ⟨hN, hv, hk, hnl⟩ := B.cap i x j e1' hcap
          have e4 : σ[j]? = some (some v) := by
            have e5 : some ((σ[j]?).join) = some (some v) := e2
            cases hq : σ[j]? with
            | none => rw [hq] at e5; cases e5
            | some q => rw [hq] at e5; exact e5
          obtain ⟨m, hn, hl⟩ := I2.loc
          obtain ⟨u, r, l⟩ := hl j x v hN e4 hv
          refine ⟨u, r, .inr ⟨hk, ?_⟩⟩
          rcases l with ⟨k, _⟩ | ⟨k, c, hcl, o, ho, hd⟩
          · exact absurd k hnl
          · obtain ⟨c', hc'⟩ := B.has x hk
            have e6 := B.sub x c' hc'
            rw [hcl] at e6
            cases e6
            exact ⟨c, hc', o, old c o ho, hd⟩
    · obtain ⟨v, o, ho, hd⟩ := I2.cell x c (B.sub x c e)
      exact ⟨v, o, old c o ho, hd⟩
    · show (capV cap σ).length = N'.length
      unfold capV
      rw [List.length_map]; exact B.len
  have neDC : D ≠ C := hDC
  have dfs : D ∉ frs X.stack := fun hb => by
    obtain ⟨_, o, ho, _⟩ := I2.stack.mem hb
    have := Heap.lt_size ho
    rw [hD] at this
    exact absurd this (Nat.lt_irrefl _)
  have stat : ∀ {P : List (Addr × Obj)} {H' : Hp}, (∀ p ∈ P, p.1 = D) → (∀ b ∈ fp, H' b = none) → ∀ b ∈ fp, FpOk (blk X scope cl N' C s₂ H2 fp) P H' b := fun hP hn b hb =>
    ⟨hn b hb, (ok.exf b hb).1, ok.exfs b hb, .inl hb, (ok.exf b hb).2, fun p hp z => by
      have hp' : p ∈ _ := hp
      rw [hP p (by simpa using hp')] at z
      exact Nat.ne_of_gt (fpD b hb) z⟩
  have loop : ∀ s₃ : Shared, s₃ = { s₂ with heap := h₁, toks := s₂.toks + ([] : List (Str × Value)).length } →
      codeAny (model X.prog X.w) X.A (.compLoop (.ListComp elt [⟨tg, iter, ifs, 0⟩] scope pos) 0 (.ref it) (.ref D) (compEnvC scope cl C X.env))
        (compPost (model X.prog X.w) X.A X.xe none (EP X pins σ Q) (.ref D) C) s₃ := by
    rintro s₃ rfl
    refine comp_loop_go (fun n s' => ∃ i ys its H' k, Inv (blk X scope cl N' C s₂ H2 fp) [] (capV cap σ) H' s' ∧ tn i s'.heap ∧ (∀ b ∈ fp, H' b = none) ∧ H' D = none ∧ s'.heap.get? D = some { cls := .type "list", data := .seq (its : List Value).toArray k } ∧ Vals ys its ∧ W i n ys H') ?_ m0
      ⟨0, [], [], H2, 0, I4, T.keep _ _ _ st2 fun b _ o e => old b o e, fun b hb => (f2 b hb).1, freshH D (Nat.le_refl _), hacc, .nil, w0⟩
    rintro n s' ⟨i, ys, its, H', k, Ia, sta, fra, hDa, hDo, rv, wa⟩
    obtain ⟨hsz, tu⟩ := turn i n ys H' wa
    have Ib : Inv (blk X scope cl N' C s₂ H2 fp) [(D, { cls := .type "list", data := .seq its.toArray k })] (capV cap σ) H' s' := Ia.pins_of fun p hp => by
      have hp' : p = (D, { cls := .type "list", data := .seq its.toArray k }) := by simpa using hp
      subst hp'
      exact ⟨hDo, hDa, neDC, dfs, fun v z => nomatch z⟩
    have hPD : ∀ p ∈ [((D, { cls := .type "list", data := .seq its.toArray k }) : Addr × Obj)], p.1 = D := fun p hp => by
      have hp' : p = (D, { cls := .type "list", data := .seq its.toArray k }) := by simpa using hp
      rw [hp']
    rcases tu with ⟨stop, qn⟩ | ⟨go, step⟩
    · refine wpAny_mono (T.done (blk X scope cl N' C s₂ H2 fp) rfl rfl rfl hc i _ s' (capV cap σ) H' (fun _ _ => False) Ib (stat hPD fra) sta stop) (fun r s4 hr4 => ?_) fun _ _ z => z.elim
      obtain ⟨hr, Ic⟩ := hr4
      subst hr
      obtain ⟨m, hn, _⟩ := Ic.loc
      refine ⟨m, hn, fun h' hsb => ?_⟩
      have hDo4 : s4.heap.get? D = some { cls := .type "list", data := .seq its.toArray k } := (Ic.pin (D, _) (by simp)).1
      have hCn : H' C = none := Ic.free
      have un : Un (frs X.stack) fp H2 (upd H' D (.lst ys)) s₂.heap h' := by
        have bs := Ic.base
        have neC : ∀ b o, s₂.heap.get? b = some o → h'.get? b = s4.heap.get? b := fun b o e => by
          have : b < D := by rw [← hD]; exact Heap.lt_size e
          exact hsb.2 b (Nat.ne_of_lt (Nat.lt_of_lt_of_le this hCs))
        refine ⟨fun b o e n h1 h2 => (neC b o e).trans (bs.keep b o e n h1 h2), fun b o e n h1 h2 => ?_, fun b o e n h2 => ?_, fun b o e h2 => ?_, fun b xs e => ?_, fun b o u e => ?_, fun b ps e => ?_⟩
        · obtain ⟨sl, q⟩ := bs.slot b o e n h1 h2
          exact ⟨sl, (neC b o e).trans q⟩
        · have : b < D := by rw [← hD]; exact Heap.lt_size e
          rw [upd_ne (Nat.ne_of_lt this)]
          exact bs.free b o e n h2
        · obtain ⟨o', q⟩ := bs.there b o e h2
          exact ⟨o', (neC b o e).trans q⟩
        · have q := bs.tups b xs e
          rw [upd_ne (ne_of_none q hDa)]; exact q
        · have q := bs.frzs b o u e
          rw [upd_ne (ne_of_none q hDa)]; exact q
        · obtain ⟨more, q⟩ := bs.tbls b ps e
          exact ⟨more, by rw [upd_ne (ne_of_none q hDa)]; exact q⟩
      have hok : HOk X.prog X.w (upd H' D (.lst ys)) h' := fun b u e => by
        by_cases hb : b = D
        · subst hb
          rw [upd_same] at e
          cases e
          exact ⟨Nat.le_of_lt hsz, its, k, rv, (hsb.2 _ (by show _ ≠ C; exact neDC)).trans hDo4⟩
        · rw [upd_ne hb] at e
          refine (Ic.hok b u e).stay (fun c v hcc q => (hsb.2 c ?_).trans q) (fun c q => by rw [upd_ne (ne_of_none q hDa)]; exact q) fun c xs q => by rw [upd_ne (ne_of_none q hDa)]; exact q
          rcases hcc with z | z
          · rw [z]; exact ne_of_none e hCn
          · exact ne_of_none z hCn
      have If := I2.call' (s' := { s4 with heap := h' }) (H' := upd H' D (.lst ys)) (ch := fp) Ic.os un hok Ic.bare fun b hb => ⟨(f2 b hb).2.2.2.1, (f2 b hb).2.1, (f2 b hb).2.2.2.2.1, (f2 b hb).2.2.2.2.2⟩
      exact ⟨.ref D, _, If, rfl, qn D hDa⟩
    · refine wpAny_mono (T.item (blk X scope cl N' C s₂ H2 fp) rfl rfl rfl hc i _ s' (capV cap σ) H' (fun _ _ => False) Ib (stat hPD fra) sta go) (fun r s4 hr4 => ?_) fun _ _ z => z.elim
      obtain ⟨u, hr, h4⟩ := hr4
      subst hr
      refine wpAny_mono h4 (fun _ s5 h5 => ?_) fun _ _ z => z.elim
      obtain ⟨x, H5, I5, r5, y5, st5, fr5⟩ := h5
      have I5' := I5.pinned (stat hPD fr5) (T.obj _ _ st5)
      refine wpAny_mono (hg C s₂ H2 fp _ s5 (capV cap σ) H5 x u _ I5' r5 (step x H5 y5)) (fun _ s6 h6 => ?_) fun _ _ z => z.elim
      obtain ⟨σ6, H6, I6, le6, q6⟩ := h6
      refine wpAny_mono (ht C s₂ H2 fp _ s6 σ6 H6 _ I6 q6) (fun b s7 h7 => ?_) fun _ _ z => z.elim
      obtain ⟨H7, I7, q7⟩ := h7

      have back : ∀ {σ' : St} {H'' : Hp} {s'' : Shared}, Inv (blk X scope cl N' C s₂ H2 fp) ([((D, { cls := .type "list", data := .seq its.toArray k }) : Addr × Obj)] ++ pinsAt fp s5.heap) σ' H'' s'' →
          s''.heap.get? D = some { cls := .type "list", data := .seq its.toArray k } ∧ H'' D = none ∧ (∀ b ∈ fp, H'' b = none) ∧ tn (i + 1) s''.heap := fun {σ' H'' s''} Iz => by
        have pz := fun p hp => Iz.pin p (List.mem_append_right _ hp)
        have pD := pz (D, { cls := .type "list", data := .seq its.toArray k }) (List.mem_append_left _ List.mem_cons_self)
        refine ⟨pD.1, pD.2.1, fun b hb => ?_, T.keep _ _ _ st5 fun b hb o e => (pz (b, o) (List.mem_append_right _ (mem_pinsAt hb e))).1⟩
        obtain ⟨o, e, _⟩ := T.obj _ _ st5 b hb
        exact (pz (b, o) (List.mem_append_right _ (mem_pinsAt hb e))).2.1
      have hits : its.length = ys.length := rv.length.symm
      cases b with
      | false =>
        rw [if_neg Bool.false_ne_true] at q7 ⊢
        obtain ⟨m', hm, w7⟩ := q7
        obtain ⟨b1, b2, b3, b4⟩ := back I7
        exact ⟨m', hm, i + 1, ys, its, H7, k, (I7.pins_of (pins' := []) fun p hp => absurd hp (by simp)).weak le6.len le6.get, b4, b3, b2, b1, rv, w7⟩
      | true =>
        rw [if_pos rfl] at q7 ⊢
        refine wpAny_mono (he C s₂ H2 fp _ s7 σ6 H7 _ I7 q7) (fun y s8 h8 => ?_) fun _ _ z => z.elim
        obtain ⟨v, H8, I8, r8, m', hm, w8⟩ := h8
        obtain ⟨b1, b2, b3, b4⟩ := back I8
        refine wpAny_list_append_plain (l := D) (items := its.toArray) (hsz := by rw [List.size_toArray]; omega) ⟨k, b1⟩ fun h' hl' hsb => ?_
        obtain ⟨k', e'⟩ := hl'
        have I9 : Inv (blk X scope cl N' C s₂ H2 fp) [] σ6 H8 { s8 with heap := h', toks := s8.toks } := (I8.pins_of (pins' := []) fun p hp => absurd hp (by simp)).turned (it := D) (fun b o hb e => (hsb.2 b hb).trans e) b2 neDC (.inr (Nat.le_of_eq hD))
          (fun x c e => Nat.ne_of_lt (cellD x c e)) (fun p hp => absurd (show p ∈ ([] : List (Addr × Obj)) from hp) (by simp))
        refine ⟨m', hm, i + 1, ys ++ [v], its ++ [y], H8, k', I9.weak le6.len le6.get, T.keep _ _ _ b4 fun b hb o e => (hsb.2 b (Nat.ne_of_lt (fpD b hb))).trans e, b3, b2, ?_, rv.append (.cons r8 .nil), w8⟩
        have e'' : h'.get? D = _ := e'
        rw [List.push_toArray] at e''
        exact e''
  exact codeAny_compStart_list (loop _ rfl) (T.self X.A 0 _ _ _ (T.keep _ _ _ st2 fun b _ o e => old b o e) (loop _ rfl))
end L2
namespace L2
open PySem PySem.Spec PyProof.Rows
def tCompS (i : Nat) (cap : List (Option Nat)) (wi : TI) (g : TG) (tif : TT) (te : TE) : TS := fun D σ H => tComp cap wi g tif te σ H fun v H' => D.nx (σ.set i (some v)) H'
theorem ps_comp {X : Cx} {elt tg iter : Expr} {ifs : List Expr} {scope : Scope} {cl : List (Str × Addr)} {pos spos pos' : Pos} {N' : List Str} {cap : List (Option Nat)} {wi : TI} {g : TG} {tif : TT} {te : TE} {iz : Nat} {x : Str}
    (hc : X.calm = true) (B : Blk X scope cl N' cap) (hi : PI X tg iter wi)
    (hg : ∀ C s₀ H₀ ex, PG (blk X scope cl N' C s₀ H₀ ex) tg g) (ht : ∀ C s₀ H₀ ex, PTs (blk X scope cl N' C s₀ H₀ ex) ifs tif) (he : ∀ C s₀ H₀ ex, PE (blk X scope cl N' C s₀ H₀ ex) elt te)
    (hN : X.N.Nodup) (hxi : X.N[iz]? = some x) (hx : Loc X.env.scope x)
    (hsw : swapsWith (.ListComp elt [⟨tg, iter, ifs, 0⟩] scope pos) (some (.Name x pos')) spos.line X.env = pure true)
    (hfx : X.fn x = true ∨ X.env.scope.names.lookup x = some .local)
    (hs : ∀ x, foldedSetIterable iter X.env x = pure x := by intro _; rfl) :
    PS X (.Assign [.Name x pos'] (.ListComp elt [⟨tg, iter, ifs, 0⟩] scope pos) spos) (tCompS iz cap wi g tif te) := by
  intro pins s σ H DD I h
  rw [exec_Assign_Name_used _ _ _ _ hsw]
  refine wpAny_bind (wpAny_standAt (wpAny_bind ?_))
  show wpAny _ X.A (do let _ ← comprehension (.ListComp elt [⟨tg, iter, ifs, 0⟩] scope pos) scope X.env _ (newList []) false (eval iter X.env) (some (assign (.Name x pos') X.env))) _ _ s
  refine wpAny_bind (wpAny_mono (wpAny_comprehension_free (use := some (assign (.Name x pos') X.env)) (Q := fun _ s' => SP X pins DD .next s') rfl hs B.clos B.kind B.names (thn (hi pins s σ H _ I h) fun xv s₁ h₁ => thn h₁ fun itv s₂ h₂ => ?_)) (fun _ s' hq => wpAny_pure (wpAny_pure hq)) fun _ _ e => e)
  obtain ⟨it, fp, tn, J, H2, e, I2, T, st2, f2, W, ⟨m0, w0⟩, turn⟩ := h₂
  subst e
  refine wpAny_newObj_type (wpAny_newFunctionEnv B.cells (by intro y hy; simp at hy) (fun h₁ hns₁ hsb₁ => ?_) B.kind)
  dsimp only at hns₁ hsb₁ ⊢
  generalize hHH : s₂.heap.push { cls := .type "list", dict := none, data := .seq ([] : List Value).toArray } = HH at hns₁ hsb₁ ⊢
  have hC : HH.objs.size = s₂.heap.objs.size + 1 := by rw [← hHH, Heap.size_push]
  have hDC : s₂.heap.objs.size ≠ HH.objs.size := by rw [hC]; exact Nat.ne_of_lt (Nat.lt_succ_self _)
  have below : ∀ b, b < s₂.heap.objs.size → b ≠ HH.objs.size ∧ b ≠ s₂.heap.objs.size := fun b hb => ⟨by rw [hC]; exact Nat.ne_of_lt (Nat.lt_succ_of_lt hb), Nat.ne_of_lt hb⟩
  have old : ∀ b o, s₂.heap.get? b = some o → h₁.get? b = some o := fun b o e => hsb₁.extBut b o (below b (Heap.lt_size e)).1 (Heap.get?_push_of_some _ (hHH ▸ Heap.get?_push_of_some _ e))
  have hacc : h₁.get? s₂.heap.objs.size = some { cls := .type "list", data := .seq ([] : List Value).toArray } := hsb₁.extBut _ _ hDC (Heap.get?_push_of_some _ (hHH ▸ Heap.get?_push_size _ rfl))
  have hCs : s₂.heap.objs.size ≤ HH.objs.size := by rw [hC]; exact Nat.le_succ _
  generalize hD : s₂.heap.objs.size = D at *
  generalize hCC : HH.objs.size = C at *

  have fpD : ∀ b ∈ fp, b < D := fun b hb => by
    obtain ⟨o, e, _⟩ := T.obj _ _ st2 b hb
    rw [← hD]; exact Heap.lt_size e
  have cellD : ∀ x c, cl.lookup x = some c → c < D := fun x c e => by
    obtain ⟨v, q⟩ := I2.cell x c (B.sub x c e)
    rw [← hD]; exact q.lt
  have fsX : ∀ b ∈ frs X.stack, b ∈ X.env.locals :: X.fs := fun b hb => I2.stkSub b hb
  have ok : (blk X scope cl N' C s₂ H2 fp).Ok := by
    refine ⟨I2.mod, B.kind, I2.ok.glob, I2.ok.blt, ?_, fun x y c h1 h2 => I2.ok.inj x y c (B.sub x c h1) (B.sub y c h2), fun x hx => B.has x hx, fun x c hf => absurd hf (by simp), I2.ok.hd, I2.ok.frames, .inl rfl, fun b hb => ⟨?_, fun x c e z => ?_⟩, I2.bs, Nat.le_trans I2.ok.bsz I2.sz, fun b o e hb => ?_, fun b hb hf => ?_, I2.stack, I2.stkFree⟩
    · show s₂.heap.objs.size ≤ C
      rw [hD]; exact hCs
    · exact Nat.ne_of_lt (Nat.lt_of_lt_of_le (fpD b hb) hCs)
    · exact (f2 b hb).2.2.2.2.1 x c (B.sub x c e) z
    · have h1 := f2 b hb
      rcases h1.2.2.2.1 with z | z
      · exact I2.ok.noex b o e z
      · have h2 := (I2.ok.bs b o e).1
        exact absurd (Nat.lt_of_lt_of_le (Heap.lt_size h2) z) (Nat.lt_irrefl _)
    · rcases List.mem_cons.mp (fsX b hf) with z | z
      · exact (f2 b hb).2.1 z
      · exact (f2 b hb).2.2.1 z
  have freshH : ∀ a, D ≤ a → H2 a = none := fun a ha => I2.hok.fresh (by rw [hD]; exact ha)
  have I4 : Inv (blk X scope cl N' C s₂ H2 fp) [] (capV cap σ) H2 { s₂ with heap := h₁, toks := s₂.toks + ([] : List (Str × Value)).length } := by
    refine ⟨ok, rfl, I2.bare, Un.kept old, ⟨_, hns₁, fun i x v e1 e2 e3 => ?_⟩, fun x c e => ?_, freshH C hCs, fun x c e => I2.freeC x c (B.sub x c e), fun p hp => absurd (show p ∈ ([] : List (Addr × Obj)) from hp) (by simp), I2.hok.kept old, ?_⟩
    · have e1' : N'[i]? = some x := e1
      unfold capV at e2
      rw [List.getElem?_map] at e2
      cases hcap : cap[i]? with
      | none => rw [hcap] at e2; cases e2
      | some o =>
        rw [hcap] at e2
        cases o with
        | none => cases e2
        | some j =>
          obtain ⟨hN, hv, hk, hnl⟩ := B.cap i x j e1' hcap
          have e4 : σ[j]? = some (some v) := by
            have e5 : some ((σ[j]?).join) = some (some v) := e2
            cases hq : σ[j]? with
            | none => rw [hq] at e5; cases e5
            | some q => rw [hq] at e5; exact e5
          obtain ⟨m, hn, hl⟩ := I2.loc
          obtain ⟨u, r, l⟩ := hl j x v hN e4 hv
          refine ⟨u, r, .inr ⟨hk, ?_⟩⟩
          rcases l with ⟨k, _⟩ | ⟨k, c, hcl, o, ho, hd⟩
          · exact absurd k hnl
          · obtain ⟨c', hc'⟩ := B.has x hk
            have e6 := B.sub x c' hc'
            rw [hcl] at e6
            cases e6
            exact ⟨c, hc', o, old c o ho, hd⟩
    · obtain ⟨v, o, ho, hd⟩ := I2.cell x c (B.sub x c e)
      exact ⟨v, o, old c o ho, hd⟩
    · show (capV cap σ).length = N'.length
      unfold capV
      rw [List.length_map]; exact B.len
  have neDC : D ≠ C := hDC
  have dfs : D ∉ frs X.stack := fun hb => by
    obtain ⟨_, o, ho, _⟩ := I2.stack.mem hb
    have := Heap.lt_size ho
    rw [hD] at this
    exact absurd this (Nat.lt_irrefl _)
  have stat : ∀ {P : List (Addr × Obj)} {H' : Hp}, (∀ p ∈ P, p.1 = D) → (∀ b ∈ fp, H' b = none) → ∀ b ∈ fp, FpOk (blk X scope cl N' C s₂ H2 fp) P H' b := fun hP hn b hb =>
    ⟨hn b hb, (ok.exf b hb).1, ok.exfs b hb, .inl hb, (ok.exf b hb).2, fun p hp z => by
      have hp' : p ∈ _ := hp
      rw [hP p (by simpa using hp')] at z
      exact Nat.ne_of_gt (fpD b hb) z⟩
  have loop : ∀ s₃ : Shared, s₃ = { s₂ with heap := h₁, toks := s₂.toks + ([] : List (Str × Value)).length } →
      codeAny (model X.prog X.w) X.A (.compLoop (.ListComp elt [⟨tg, iter, ifs, 0⟩] scope pos) 0 (.ref it) (.ref D) (compEnvC scope cl C X.env))
        (compPost (model X.prog X.w) X.A X.xe (some (assign (.Name x pos') X.env)) (fun _ s' => SP X pins DD .next s') (.ref D) C) s₃ := by
    rintro s₃ rfl
    refine comp_loop_go (fun n s' => ∃ i ys its H' k, Inv (blk X scope cl N' C s₂ H2 fp) [] (capV cap σ) H' s' ∧ tn i s'.heap ∧ (∀ b ∈ fp, H' b = none) ∧ H' D = none ∧ s'.heap.get? D = some { cls := .type "list", data := .seq (its : List Value).toArray k } ∧ Vals ys its ∧ W i n ys H') ?_ m0
      ⟨0, [], [], H2, 0, I4, T.keep _ _ _ st2 fun b _ o e => old b o e, fun b hb => (f2 b hb).1, freshH D (Nat.le_refl _), hacc, .nil, w0⟩
    rintro n s' ⟨i, ys, its, H', k, Ia, sta, fra, hDa, hDo, rv, wa⟩
    obtain ⟨hsz, tu⟩ := turn i n ys H' wa
    have Ib : Inv (blk X scope cl N' C s₂ H2 fp) [(D, { cls := .type "list", data := .seq its.toArray k })] (capV cap σ) H' s' := Ia.pins_of fun p hp => by
      have hp' : p = (D, { cls := .type "list", data := .seq its.toArray k }) := by simpa using hp
      subst hp'
      exact ⟨hDo, hDa, neDC, dfs, fun v z => nomatch z⟩
    have hPD : ∀ p ∈ [((D, { cls := .type "list", data := .seq its.toArray k }) : Addr × Obj)], p.1 = D := fun p hp => by
      have hp' : p = (D, { cls := .type "list", data := .seq its.toArray k }) := by simpa using hp
      rw [hp']
    rcases tu with ⟨stop, qn⟩ | ⟨go, step⟩
    · refine wpAny_mono (T.done (blk X scope cl N' C s₂ H2 fp) rfl rfl rfl hc i _ s' (capV cap σ) H' (fun _ _ => False) Ib (stat hPD fra) sta stop) (fun r s4 hr4 => ?_) fun _ _ z => z.elim
      obtain ⟨hr, Ic⟩ := hr4
      subst hr
      obtain ⟨m, hn, _⟩ := Ic.loc
      have hDo4 : s4.heap.get? D = some { cls := .type "list", data := .seq its.toArray k } := (Ic.pin (D, _) (by simp)).1
      have hCn : H' C = none := Ic.free
      have un : Un (frs X.stack) fp H2 (upd H' D (.lst ys)) s₂.heap s4.heap := by
        have bs := Ic.base
        refine ⟨fun b o e n h1 h2 => bs.keep b o e n h1 h2, fun b o e n h1 h2 => bs.slot b o e n h1 h2, fun b o e n h2 => ?_, fun b o e h2 => bs.there b o e h2, fun b xs e => ?_, fun b o u e => ?_, fun b ps e => ?_⟩
        · have : b < D := by rw [← hD]; exact Heap.lt_size e
          rw [upd_ne (Nat.ne_of_lt this)]
          exact bs.free b o e n h2
        · have q := bs.tups b xs e
          rw [upd_ne (ne_of_none q hDa)]; exact q
        · have q := bs.frzs b o u e
          rw [upd_ne (ne_of_none q hDa)]; exact q
        · obtain ⟨more, q⟩ := bs.tbls b ps e
          exact ⟨more, by rw [upd_ne (ne_of_none q hDa)]; exact q⟩
      have hok : HOk X.prog X.w (upd H' D (.lst ys)) s4.heap := fun b u e => by
        by_cases hb : b = D
        · subst hb
          rw [upd_same] at e
          cases e
          exact ⟨Nat.le_of_lt hsz, its, k, rv, hDo4⟩
        · rw [upd_ne hb] at e
          exact (Ic.hok b u e).stay (fun c v hcc q => q) (fun c q => by rw [upd_ne (ne_of_none q hDa)]; exact q) fun c xs q => by rw [upd_ne (ne_of_none q hDa)]; exact q
      have If := I2.call' (s' := s4) (H' := upd H' D (.lst ys)) (ch := fp) Ic.os un hok Ic.bare fun b hb => ⟨(f2 b hb).2.2.2.1, (f2 b hb).2.1, (f2 b hb).2.2.2.2.1, (f2 b hb).2.2.2.2.2⟩
      have hCl : C ≠ X.env.locals := Nat.ne_of_gt (Nat.lt_of_lt_of_le (by rw [← hD]; exact I2.lt) hCs)
      have hCc : ∀ y c, X.env.cells.lookup y = some c → c ≠ C := fun y c e => by
        obtain ⟨v, q⟩ := I2.cell y c e
        exact Nat.ne_of_lt (Nat.lt_of_lt_of_le (by rw [← hD]; exact q.lt) hCs)
      refine wpAny_assign_Name (store_ok2 If hN hxi hx (v := .ref D) rfl (fun s5 I5 hch => ?_) hfx)
      obtain ⟨aa, hsb5, haa⟩ := hch
      have hCa : C ≠ aa := by
        rcases haa with z | z
        · rw [z]; exact hCl
        · exact Ne.symm (hCc x aa z)
      refine ⟨m, hn.sameBut hsb5 hCa, fun h' hsb => ?_⟩
      have hCD : upd H' D (.lst ys) C = none := by rw [upd_ne (Ne.symm neDC)]; exact hCn
      have I6 : Inv X pins (σ.set iz (some (.ref D))) (upd H' D (.lst ys)) { s5 with heap := h', toks := s5.toks } := I5.turned (it := C) (fun b o hb e => (hsb.2 b hb).trans e) hCD hCl (.inr (Nat.le_trans I2.sz (by rw [hD]; exact hCs))) hCc (fun p hp z => by
        have h1 := (I2.pin p hp).1
        have h2 : p.1 < D := by rw [← hD]; exact Heap.lt_size h1
        exact absurd z (Nat.ne_of_lt (Nat.lt_of_lt_of_le h2 hCs)))
      exact ⟨_, _, I6, qn D hDa⟩
    · refine wpAny_mono (T.item (blk X scope cl N' C s₂ H2 fp) rfl rfl rfl hc i _ s' (capV cap σ) H' (fun _ _ => False) Ib (stat hPD fra) sta go) (fun r s4 hr4 => ?_) fun _ _ z => z.elim
      obtain ⟨u, hr, h4⟩ := hr4
      subst hr
      refine wpAny_mono h4 (fun _ s5 h5 => ?_) fun _ _ z => z.elim
      obtain ⟨x, H5, I5, r5, y5, st5, fr5⟩ := h5
      have I5' := I5.pinned (stat hPD fr5) (T.obj _ _ st5)
      refine wpAny_mono (hg C s₂ H2 fp _ s5 (capV cap σ) H5 x u _ I5' r5 (step x H5 y5)) (fun _ s6 h6 => ?_) fun _ _ z => z.elim
      obtain ⟨σ6, H6, I6, le6, q6⟩ := h6
      refine wpAny_mono (ht C s₂ H2 fp _ s6 σ6 H6 _ I6 q6) (fun b s7 h7 => ?_) fun _ _ z => z.elim
      obtain ⟨H7, I7, q7⟩ := h7

      have back : ∀ {σ' : St} {H'' : Hp} {s'' : Shared}, Inv (blk X scope cl N' C s₂ H2 fp) ([((D, { cls := .type "list", data := .seq its.toArray k }) : Addr × Obj)] ++ pinsAt fp s5.heap) σ' H'' s'' →
          s''.heap.get? D = some { cls := .type "list", data := .seq its.toArray k } ∧ H'' D = none ∧ (∀ b ∈ fp, H'' b = none) ∧ tn (i + 1) s''.heap := fun {σ' H'' s''} Iz => by
        have pz := fun p hp => Iz.pin p (List.mem_append_right _ hp)
        have pD := pz (D, { cls := .type "list", data := .seq its.toArray k }) (List.mem_append_left _ List.mem_cons_self)
        refine ⟨pD.1, pD.2.1, fun b hb => ?_, T.keep _ _ _ st5 fun b hb o e => (pz (b, o) (List.mem_append_right _ (mem_pinsAt hb e))).1⟩
        obtain ⟨o, e, _⟩ := T.obj _ _ st5 b hb
        exact (pz (b, o) (List.mem_append_right _ (mem_pinsAt hb e))).2.1
      have hits : its.length = ys.length := rv.length.symm
      cases b with
      | false =>
        rw [if_neg Bool.false_ne_true] at q7 ⊢
        obtain ⟨m', hm, w7⟩ := q7
        obtain ⟨b1, b2, b3, b4⟩ := back I7
        exact ⟨m', hm, i + 1, ys, its, H7, k, (I7.pins_of (pins' := []) fun p hp => absurd hp (by simp)).weak le6.len le6.get, b4, b3, b2, b1, rv, w7⟩
      | true =>
        rw [if_pos rfl] at q7 ⊢
        refine wpAny_mono (he C s₂ H2 fp _ s7 σ6 H7 _ I7 q7) (fun y s8 h8 => ?_) fun _ _ z => z.elim
        obtain ⟨v, H8, I8, r8, m', hm, w8⟩ := h8
        obtain ⟨b1, b2, b3, b4⟩ := back I8
        refine wpAny_list_append_plain (l := D) (items := its.toArray) (hsz := by rw [List.size_toArray]; omega) ⟨k, b1⟩ fun h' hl' hsb => ?_
        obtain ⟨k', e'⟩ := hl'
        have I9 : Inv (blk X scope cl N' C s₂ H2 fp) [] σ6 H8 { s8 with heap := h', toks := s8.toks } := (I8.pins_of (pins' := []) fun p hp => absurd hp (by simp)).turned (it := D) (fun b o hb e => (hsb.2 b hb).trans e) b2 neDC (.inr (Nat.le_of_eq hD))
          (fun x c e => Nat.ne_of_lt (cellD x c e)) (fun p hp => absurd (show p ∈ ([] : List (Addr × Obj)) from hp) (by simp))
        refine ⟨m', hm, i + 1, ys ++ [v], its ++ [y], H8, k', I9.weak le6.len le6.get, T.keep _ _ _ b4 fun b hb o e => (hsb.2 b (Nat.ne_of_lt (fpD b hb))).trans e, b3, b2, ?_, rv.append (.cons r8 .nil), w8⟩
        have e'' : h'.get? D = _ := e'
        rw [List.push_toArray] at e''
        exact e''
  exact codeAny_compStart_list (loop _ rfl) (T.self X.A 0 _ _ _ (T.keep _ _ _ st2 fun b _ o e => old b o e) (loop _ rfl))
end L2
namespace L3
open PySem PySem.Spec PyProof.Rows L2
open PySem.W (Dat kqdOk kqdP kqdPs kqd_lay kqd_eqv)
abbrev Fg := PySem.W.Frag
abbrev AvP := Addr → Prop
abbrev Rho := List (Option Dat)
def SqTA (K : Fg) (H : Hp) (Av : AvP) (a : Addr) (xs : List V) : Prop :=
  (Rd H a (.tup xs) ∧ ¬ Av a) ∨ ∃ (o : Obj) (its : Array Value) (n : Nat), K.lookup a = some o ∧ o.cls = .type "tuple" ∧ o.data = .seq its n ∧ its.size ≤ sizeLine ∧ Vals xs its.toList
def SqLA (K : Fg) (H : Hp) (Av : AvP) (a : Addr) (xs : List V) : Prop :=
  (Rd H a (.lst xs) ∧ ¬ Av a) ∨ ∃ (o : Obj) (its : Array Value) (n : Nat), K.lookup a = some o ∧ o.cls = .type "list" ∧ o.dict = none ∧ o.data = .seq its n ∧ its.size ≤ sizeLine ∧ Vals xs its.toList
theorem SqTA.sq {K : Fg} {H : Hp} {Av : AvP} {a : Addr} {xs : List V} (h : SqTA K H Av a xs) : SqT K H a xs := h.elim (fun z => .inl z.1) .inr
theorem SqLA.sq {K : Fg} {H : Hp} {Av : AvP} {a : Addr} {xs : List V} (h : SqLA K H Av a xs) : SqL K H a xs := h.elim (fun z => .inl z.1) .inr
mutual
inductive RepD (K : Fg) (H : Hp) (Av : AvP) : V → Dat → Prop
  | non : RepD K H Av .non .none
  | bl (b : Bool) : RepD K H Av (.bl b) (.bool b)
  | int (i : Int) : RepD K H Av (.int i) (.int i)
  | str (x : Str) : RepD K H Av (.str x) (.str x)
  | tup {a : Addr} {xs : List V} {ds : List Dat} : SqTA K H Av a xs → RepDs K H Av xs ds → RepD K H Av (.ref a) (.tuple ds)
  | lst {a : Addr} {xs : List V} {ds : List Dat} : SqLA K H Av a xs → RepDs K H Av xs ds → RepD K H Av (.ref a) (.list ds)
inductive RepDs (K : Fg) (H : Hp) (Av : AvP) : List V → List Dat → Prop
  | nil : RepDs K H Av [] []
  | cons {v : V} {vs : List V} {d : Dat} {ds : List Dat} : RepD K H Av v d → RepDs K H Av vs ds → RepDs K H Av (v :: vs) (d :: ds)
end
section
variable {K : Fg} {H H' H1 : Hp} {Av Av' : AvP}
def Keep (H : Hp) (Av : AvP) (H' : Hp) (Av' : AvP) : Prop := ∀ b o, H b = some o → ¬ Av b → H' b = some o ∧ ¬ Av' b
theorem rd_keep (k : Keep H Av H' Av') {a : Addr} {u : HO} (h : Rd H a u ∧ ¬ Av a) : Rd H' a u ∧ ¬ Av' a := by
  obtain ⟨h, n⟩ := h
  rcases h with h | ⟨o, h⟩
  · exact ⟨.inl (k _ _ h n).1, (k _ _ h n).2⟩
  · exact ⟨.inr ⟨o, (k _ _ h n).1⟩, (k _ _ h n).2⟩
mutual
theorem RepD.mono (k : Keep H Av H' Av') : ∀ {v : V} {d : Dat}, RepD K H Av v d → RepD K H' Av' v d
  | _, _, .non => .non
  | _, _, .bl b => .bl b
  | _, _, .int i => .int i
  | _, _, .str x => .str x
  | _, _, .tup h r => .tup (h.elim (fun z => .inl (rd_keep k z)) .inr) (RepDs.mono k r)
  | _, _, .lst h r => .lst (h.elim (fun z => .inl (rd_keep k z)) .inr) (RepDs.mono k r)
theorem RepDs.mono (k : Keep H Av H' Av') : ∀ {vs : List V} {ds : List Dat}, RepDs K H Av vs ds → RepDs K H' Av' vs ds
  | _, _, .nil => .nil
  | _, _, .cons h r => .cons (RepD.mono k h) (RepDs.mono k r)
end
theorem keep_same (e : Same H H') : Keep H Av H' Av := fun b o h n => ⟨e b o h, n⟩
theorem keep_weak (w : ∀ a, Av' a → Av a) : Keep H Av H Av' := fun b o h n => ⟨h, fun z => n (w _ z)⟩
theorem RepD.same (e : Same H H') {v : V} {d : Dat} (r : RepD K H Av v d) : RepD K H' Av v d := r.mono (keep_same e)
theorem RepDs.same (e : Same H H') {v : List V} {d : List Dat} (r : RepDs K H Av v d) : RepDs K H' Av v d := r.mono (keep_same e)
theorem RepD.weak (w : ∀ a, Av' a → Av a) {v : V} {d : Dat} (r : RepD K H Av v d) : RepD K H Av' v d := r.mono (keep_weak w)
theorem RepDs.weak (w : ∀ a, Av' a → Av a) {v : List V} {d : List Dat} (r : RepDs K H Av v d) : RepDs K H Av' v d := r.mono (keep_weak w)
theorem RepDs.length : ∀ {vs : List V} {ds : List Dat}, RepDs K H Av vs ds → vs.length = ds.length
  | _, _, .nil => rfl
  | _, _, .cons _ r => congrArg (· + 1) (RepDs.length r)
theorem RepDs.get : ∀ {vs : List V} {ds : List Dat} {i : Nat} {d : Dat}, RepDs K H Av vs ds → ds[i]? = some d → ∃ v, vs[i]? = some v ∧ RepD K H Av v d
  | _, _, _, _, .nil, e => by simp at e
  | _, _, 0, _, .cons h _, e => by simp at e; subst e; exact ⟨_, rfl, h⟩
  | _, _, i + 1, d, .cons _ r, e => by
    obtain ⟨v, h1, h2⟩ := RepDs.get (i := i) (d := d) r (by simpa using e)
    exact ⟨v, by simpa using h1, h2⟩
theorem RepDs.append : ∀ {vs ws : List V} {ds es : List Dat}, RepDs K H Av vs ds → RepDs K H Av ws es → RepDs K H Av (vs ++ ws) (ds ++ es)
  | _, _, _, _, .nil, s => s
  | _, _, _, _, .cons h r, s => .cons h (RepDs.append r s)
theorem RepDs.take : ∀ {vs : List V} {ds : List Dat} (n : Nat), RepDs K H Av vs ds → RepDs K H Av (vs.take n) (ds.take n)
  | _, _, 0, _ => .nil
  | _, _, _ + 1, .nil => .nil
  | _, _, n + 1, .cons r t => .cons r (RepDs.take n t)
theorem RepDs.drop : ∀ {vs : List V} {ds : List Dat} (n : Nat), RepDs K H Av vs ds → RepDs K H Av (vs.drop n) (ds.drop n)
  | _, _, 0, r => r
  | _, _, _ + 1, .nil => .nil
  | _, _, n + 1, .cons _ t => RepDs.drop n t
theorem RepDs.ints (ns : List Int) : RepDs K H Av (ns.map V.int) (ns.map Dat.int) := by
  induction ns with
  | nil => exact .nil
  | cons n ns ih => exact .cons (.int n) ih
theorem same_new {p : Addr} (h : H p = none) (o : HO) : Same H (upd H p o) := fun b u q => by rw [upd_ne (ne_of_none q h)]; exact q
def AvT (H : Hp) (Av : AvP) : Prop := ∀ a, Av a → ∃ o, H a = some o
theorem AvT.same (e : Same H H') (h : AvT H Av) : AvT H' Av := fun a z => let ⟨o, q⟩ := h a z; ⟨o, e a o q⟩
theorem AvT.new (h : AvT H Av) {p : Addr} (e : H p = none) : ¬ Av p := fun z => by
  obtain ⟨o, q⟩ := h p z
  rw [e] at q; cases q
theorem RepD.newT (h : AvT H Av) {p : Addr} {xs : List V} {ds : List Dat} (e : H p = none) (r : RepDs K H Av xs ds) : RepD K (upd H p (.tup xs)) Av (.ref p) (.tuple ds) :=
  .tup (.inl ⟨.inl upd_same, h.new e⟩) (r.same (same_new e _))
theorem RepD.newL (h : AvT H Av) {p : Addr} {xs : List V} {ds : List Dat} (e : H p = none) (r : RepDs K H Av xs ds) : RepD K (upd H p (.lst xs)) Av (.ref p) (.list ds) :=
  .lst (.inl ⟨.inl upd_same, h.new e⟩) (r.same (same_new e _))
def REnv (K : Fg) (H : Hp) (Av : AvP) (σ : L2.St) (ρ : Rho) : Prop := ∀ (i : Nat) (d : Dat), ρ[i]? = some (some d) → ∃ v, σ[i]? = some (some v) ∧ RepD K H Av v d
theorem REnv.same {σ : L2.St} {ρ : Rho} (e : Same H H') (h : REnv K H Av σ ρ) : REnv K H' Av σ ρ := fun i d q => let ⟨v, a, r⟩ := h i d q; ⟨v, a, r.same e⟩
def tF (K : Fg) (f : Rho → Option Dat) : TE := fun σ H Q => ∃ Av ρ d, AvT H Av ∧ REnv K H Av σ ρ ∧ f ρ = some d ∧ ∀ v H', Same H H' → RepD K H' Av v d → Q v H'
def tTF (K : Fg) (f : Rho → Option Bool) : TT := fun σ H Q => ∃ Av ρ b, AvT H Av ∧ REnv K H Av σ ρ ∧ f ρ = some b ∧ ∀ H', Same H H' → Q b H'
def tFA (K : Fg) (f : Rho → Option (List Dat)) : TA := fun σ H Q => ∃ Av ρ ds, AvT H Av ∧ REnv K H Av σ ρ ∧ f ρ = some ds ∧ ∀ vs H', Same H H' → RepDs K H' Av vs ds → Q vs H'
end
abbrev PF (X : Cx) (e : Expr) (f : Rho → Option Dat) : Prop := PE X e (tF X.K f)
abbrev PFT (X : Cx) (e : Expr) (f : Rho → Option Bool) : Prop := PT X e (tTF X.K f)
abbrev PFA (X : Cx) (e : List Expr) (f : Rho → Option (List Dat)) : Prop := PA X e (tFA X.K f)
section
variable {X : Cx} {a b c e : Expr} {es : List Expr} {pos : Pos} {fa fb fc f : Rho → Option Dat} {fs : Rho → Option (List Dat)}
theorem pe_mono {t t' : TE} (h : PE X e t) (m : ∀ σ H Q, t' σ H Q → t σ H Q) : PE X e t' := fun pins s σ H Q I q => h pins s σ H Q I (m σ H Q q)
theorem pt_mono {t t' : TT} (h : PT X e t) (m : ∀ σ H Q, t' σ H Q → t σ H Q) : PT X e t' := fun pins s σ H Q I q => h pins s σ H Q I (m σ H Q q)
theorem pw_mono {t t' : TT} (h : PW X e t) (m : ∀ σ H Q, t' σ H Q → t σ H Q) : PW X e t' := fun w pins s σ H Q I q => h w pins s σ H Q I (m σ H Q q)
theorem pa_mono {t t' : TA} (h : PA X es t) (m : ∀ σ H Q, t' σ H Q → t σ H Q) : PA X es t' := fun p pins s σ H Q I q => h p pins s σ H Q I (m σ H Q q)
def fVar (i : Nat) : Rho → Option Dat := fun ρ => (ρ[i]?).join
def fC (d : Dat) : Rho → Option Dat := fun _ => some d
theorem join_some {o : Option (Option Dat)} {d : Dat} (h : o.join = some d) : o = some (some d) := by
  cases o with
  | none => cases h
  | some q => exact congrArg some h
theorem pf_var (i : Nat) {x : Str} {pos : Pos} (hN : X.N[i]? = some x := by rfl) (hv : Vis X.env.scope x := by first | exact Or.inl rfl | exact Or.inr (Or.inl rfl) | exact Or.inr (Or.inr rfl)) (hd : (x == ("__debug__" : Str)) = false := by decide)
    (hcd : (x == ("__classdict__" : Str)) = false := by decide) : PF X (.Name x pos) (fVar i) := pe_mono (pe_var hN hv hd hcd) fun σ H Q ⟨Av, ρ, d, hA, hE, hf, q⟩ => by
  obtain ⟨v, e1, r⟩ := hE i d (join_some hf)
  exact ⟨v, e1, q v H (Same.refl H) r⟩
theorem pf_int {i j pos} : PF X (.Constant (.int i) j pos) (fC (.int i)) := pe_mono pe_int fun σ H Q ⟨Av, ρ, d, hA, hE, hf, q⟩ => by cases hf; exact q _ H (Same.refl H) (.int i)
theorem pf_bl {i j pos} : PF X (.Constant (.bool i) j pos) (fC (.bool i)) := pe_mono pe_bl fun σ H Q ⟨Av, ρ, d, hA, hE, hf, q⟩ => by cases hf; exact q _ H (Same.refl H) (.bl i)
theorem pf_str {i j pos} : PF X (.Constant (.str i) j pos) (fC (.str i)) := pe_mono pe_str fun σ H Q ⟨Av, ρ, d, hA, hE, hf, q⟩ => by cases hf; exact q _ H (Same.refl H) (.str i)
def f2 (g : Dat → Dat → Option Dat) (fa fb : Rho → Option Dat) : Rho → Option Dat := fun ρ => (fa ρ).bind fun a => (fb ρ).bind fun b => g a b
def OpD (K : Fg) (r : R2) (g : Dat → Dat → Option Dat) : Prop := ∀ (H : Hp) (Av : AvP) (x y : V) (dx dy d : Dat) (Q : VK), AvT H Av → RepD K H Av x dx → RepD K H Av y dy → g dx dy = some d → (∀ v H', Same H H' → RepD K H' Av v d → Q v H') → r x y H Q
theorem bind_some {α β : Type} {o : Option α} {g : α → Option β} {b : β} (h : o.bind g = some b) : ∃ a, o = some a ∧ g a = some b := by
  cases o with
  | none => cases h
  | some a => exact ⟨a, rfl, h⟩
theorem tF_op {K : Fg} {r : R2} {g : Dat → Dat → Option Dat} (hr : OpD K r g) : ∀ σ H Q, tF K (f2 g fa fb) σ H Q → tOp r (tF K fa) (tF K fb) σ H Q := by
  rintro σ H Q ⟨Av, ρ, d, hA, hE, hf, q⟩
  obtain ⟨dx, e1, hf⟩ := bind_some hf
  obtain ⟨dy, e2, hf⟩ := bind_some hf
  refine ⟨Av, ρ, dx, hA, hE, e1, fun x H1 s1 r1 => ⟨Av, ρ, dy, hA.same s1, hE.same s1, e2, fun y H2 s2 r2 => ?_⟩⟩
  exact hr H2 Av x y dx dy d Q (hA.same (s1.trans s2)) (r1.same s2) r2 hf fun v H' s3 r3 => q v H' (s1.trans (s2.trans s3)) r3
theorem pf_bin {op : Operator} {r : R2} {g : Dat → Dat → Option Dat} (ho : OpR X (binaryOp op) r) (hd : OpD X.K r g) (ha : PF X a fa) (hb : PF X b fb) : PF X (.BinOp a op b pos) (f2 g fa fb) := pe_mono (pe_op ho ha hb) (tF_op hd)
theorem pf_cmp {op : CmpOp} {r : R2} {g : Dat → Dat → Option Dat} (ho : OpR X (compareOp op) r) (hd : OpD X.K r g) (ha : PF X a fa) (hb : PF X b fb) (hm : behindInMarks op b = false) : PF X (.Compare a [op] [b] pos) (f2 g fa fb) := pe_mono (pe_cmpR ho ha hb hm) (tF_op hd)
def asB : Dat → Option Bool
  | .bool b => some b
  | _ => none
def fTest (f : Rho → Option Dat) : Rho → Option Bool := fun ρ => (f ρ).bind asB
theorem asB_some {d : Dat} {b : Bool} (h : asB d = some b) : d = .bool b := by
  cases d <;> first | (cases h; done) | (simp only [asB, Option.some.injEq] at h; rw [h])
theorem RepD.b_inv {K : Fg} {H : Hp} {Av : AvP} {v : V} {b : Bool} (h : RepD K H Av v (.bool b)) : v = .bl b := by cases h; rfl
theorem RepD.i_inv {K : Fg} {H : Hp} {Av : AvP} {v : V} {b : Int} (h : RepD K H Av v (.int b)) : v = .int b := by cases h; rfl
theorem RepD.s_inv {K : Fg} {H : Hp} {Av : AvP} {v : V} {b : Str} (h : RepD K H Av v (.str b)) : v = .str b := by cases h; rfl
theorem RepD.t_inv {K : Fg} {H : Hp} {Av : AvP} {v : V} {ds : List Dat} (h : RepD K H Av v (.tuple ds)) : ∃ a xs, v = .ref a ∧ SqTA K H Av a xs ∧ RepDs K H Av xs ds := by cases h with | tup h r => exact ⟨_, _, rfl, h, r⟩
theorem RepD.l_inv {K : Fg} {H : Hp} {Av : AvP} {v : V} {ds : List Dat} (h : RepD K H Av v (.list ds)) : ∃ a xs, v = .ref a ∧ SqLA K H Av a xs ∧ RepDs K H Av xs ds := by cases h with | lst h r => exact ⟨_, _, rfl, h, r⟩
theorem tTest_F {K : Fg} {t : TE} {f : Rho → Option Dat} (m : ∀ σ H Q, tF K f σ H Q → t σ H Q) : ∀ σ H Q, tTF K (fTest f) σ H Q → tTest t σ H Q := by
  rintro σ H Q ⟨Av, ρ, b, hA, hE, hf, q⟩
  obtain ⟨d, e1, hf⟩ := bind_some hf
  have e2 := asB_some hf
  subst e2
  exact m σ H _ ⟨Av, ρ, .bool b, hA, hE, e1, fun v H' s r => ⟨b, r.b_inv, q H' s⟩⟩
theorem pft_cmp {op : CmpOp} {r : R2} {g : Dat → Dat → Option Dat} (ho : OpR X (compareOp op) r) (hd : OpD X.K r g) (ha : PF X a fa) (hb : PF X b fb) (hm : behindInMarks op b = false) : PFT X (.Compare a [op] [b] pos) (fTest (f2 g fa fb)) := pt_mono (pt_cmpR ho ha hb hm) (tTest_F (tF_op hd))
def truD : Dat → Option Bool
  | .none => some false
  | .bool b => some b
  | .int i => some (i != 0)
  | .str y => if y.length ≤ sizeLine then some ((y.length : Int) != 0) else none
  | .list ds => some (!ds.isEmpty)
  | .tuple ds => some (!ds.isEmpty)
  | _ => none
def fTru (f : Rho → Option Dat) : Rho → Option Bool := fun ρ => (f ρ).bind truD
theorem RepDs.emp {K : Fg} {H : Hp} {Av : AvP} {vs : List V} {ds : List Dat} (h : RepDs K H Av vs ds) : ds.isEmpty = vs.isEmpty := by cases h <;> rfl
theorem truD_V {K : Fg} {H : Hp} {Av : AvP} {v : V} {d : Dat} {k : Bool} (r : RepD K H Av v d) (h : truD d = some k) : TruV K v H k := by
  cases r with
  | non => cases h; exact rfl
  | bl b => cases h; exact rfl
  | int i => cases h; exact rfl
  | str x =>
    simp only [truD] at h
    split at h
    · rename_i hz; cases h; exact ⟨hz, rfl⟩
    · cases h
  | tup hq rs => cases h; exact .inr (.inl ⟨_, hq.sq, by rw [rs.emp]⟩)
  | lst hq rs => cases h; exact .inl ⟨_, hq.sq, by rw [rs.emp]⟩
theorem pft_truth (ha : PF X a fa) (he : ∀ whole, isTrue a X.env whole = (do let v ← whole; standAt a.pos; holding [v] (truthy v)) := by intro _; rfl) : PFT X a (fTru fa) := pt_mono (pt_truth ha he) fun σ H Q ⟨Av, ρ, b, hA, hE, hf, q⟩ => by
  obtain ⟨d, e1, hf⟩ := bind_some hf
  exact ⟨Av, ρ, d, hA, hE, e1, fun v H' s r => ⟨b, truD_V r hf, q H' s⟩⟩
def fAndT (f g : Rho → Option Bool) : Rho → Option Bool := fun ρ => (f ρ).bind fun c => if c = true then g ρ else some false
def fOrT (f g : Rho → Option Bool) : Rho → Option Bool := fun ρ => (f ρ).bind fun c => if c = true then some true else g ρ
def fNotT (f : Rho → Option Bool) : Rho → Option Bool := fun ρ => (f ρ).map (!·)
variable {ft gt : Rho → Option Bool} {rest : List Expr}
abbrev PFW (X : Cx) (e : Expr) (f : Rho → Option Bool) : Prop := PW X e (tTF X.K f)
theorem pfw_and1 (ha : PFT X a ft) : PFW X (.BoolOp .And [a] pos) ft := pw_and1 ha
theorem pfw_or1 (ha : PFT X a ft) : PFW X (.BoolOp .Or [a] pos) ft := pw_or1 ha
theorem pfw_and (ha : PFT X a ft) (hb : PFW X (.BoolOp .And (b :: rest) pos) gt) : PFW X (.BoolOp .And (a :: b :: rest) pos) (fAndT ft gt) := pw_mono (pw_and ha hb) fun σ H Q ⟨Av, ρ, k, hA, hE, hf, q⟩ => by
  obtain ⟨c, e1, hf⟩ := bind_some hf
  refine ⟨Av, ρ, c, hA, hE, e1, fun H1 s1 => ?_⟩
  cases c with
  | true => rw [if_pos rfl] at hf ⊢; exact ⟨Av, ρ, k, hA.same s1, hE.same s1, hf, fun H2 s2 => q H2 (s1.trans s2)⟩
  | false => rw [if_neg Bool.false_ne_true] at hf ⊢; cases hf; exact q H1 s1
theorem pfw_or (ha : PFT X a ft) (hb : PFW X (.BoolOp .Or (b :: rest) pos) gt) : PFW X (.BoolOp .Or (a :: b :: rest) pos) (fOrT ft gt) := pw_mono (pw_or ha hb) fun σ H Q ⟨Av, ρ, k, hA, hE, hf, q⟩ => by
  obtain ⟨c, e1, hf⟩ := bind_some hf
  refine ⟨Av, ρ, c, hA, hE, e1, fun H1 s1 => ?_⟩
  cases c with
  | false => rw [if_neg Bool.false_ne_true] at hf ⊢; exact ⟨Av, ρ, k, hA.same s1, hE.same s1, hf, fun H2 s2 => q H2 (s1.trans s2)⟩
  | true => rw [if_pos rfl] at hf ⊢; cases hf; exact q H1 s1
theorem pft_w {e : Expr} (h : PFW X e ft) : PFT X e ft := h.pt
theorem pft_not (ha : PFT X a ft) : PFT X (.UnaryOp .Not a pos) (fNotT ft) := pt_mono (pt_not ha) fun σ H Q ⟨Av, ρ, k, hA, hE, hf, q⟩ => by
  unfold fNotT at hf
  cases e : ft ρ with
  | none => rw [e] at hf; cases hf
  | some c => rw [e] at hf; cases hf; exact ⟨Av, ρ, c, hA, hE, e, q⟩
def fAnd (f g : Rho → Option Dat) : Rho → Option Dat := fun ρ => (f ρ).bind fun d => (asB d).bind fun c => if c = true then g ρ else some (.bool false)
def fOr (f g : Rho → Option Dat) : Rho → Option Dat := fun ρ => (f ρ).bind fun d => (asB d).bind fun c => if c = true then some (.bool true) else g ρ
def fNot (f : Rho → Option Dat) : Rho → Option Dat := fun ρ => (f ρ).bind fun d => (asB d).map fun c => .bool (!c)
theorem pf_one {op} (h : PF X a fa) : PF X (.BoolOp op [a] pos) fa := pe_one h
theorem pf_and (ha : PF X a fa) (hb : PF X (.BoolOp .And (b :: rest) pos) fb) : PF X (.BoolOp .And (a :: b :: rest) pos) (fAnd fa fb) := pe_mono (pe_and ha hb) fun σ H Q ⟨Av, ρ, k, hA, hE, hf, q⟩ => by
  obtain ⟨d, e1, hf'⟩ := bind_some hf
  clear hf
  obtain ⟨c, e2, hf⟩ := bind_some hf'
  clear hf'
  have e3 := asB_some e2
  subst e3
  refine ⟨Av, ρ, _, hA, hE, e1, fun x H1 s1 r => ⟨c, r.b_inv, ?_⟩⟩
  cases c with
  | true => rw [if_pos rfl] at hf ⊢; exact ⟨Av, ρ, k, hA.same s1, hE.same s1, hf, fun v H2 s2 r2 => q v H2 (s1.trans s2) r2⟩
  | false => rw [if_neg Bool.false_ne_true] at hf ⊢; cases hf; exact q _ H1 s1 (.bl false)
theorem pf_or (ha : PF X a fa) (hb : PF X (.BoolOp .Or (b :: rest) pos) fb) : PF X (.BoolOp .Or (a :: b :: rest) pos) (fOr fa fb) := pe_mono (pe_or ha hb) fun σ H Q ⟨Av, ρ, k, hA, hE, hf, q⟩ => by
  obtain ⟨d, e1, hf'⟩ := bind_some hf
  clear hf
  obtain ⟨c, e2, hf⟩ := bind_some hf'
  clear hf'
  have e3 := asB_some e2
  subst e3
  refine ⟨Av, ρ, _, hA, hE, e1, fun x H1 s1 r => ⟨c, r.b_inv, ?_⟩⟩
  cases c with
  | false => rw [if_neg Bool.false_ne_true] at hf ⊢; exact ⟨Av, ρ, k, hA.same s1, hE.same s1, hf, fun v H2 s2 r2 => q v H2 (s1.trans s2) r2⟩
  | true => rw [if_pos rfl] at hf ⊢; cases hf; exact q _ H1 s1 (.bl true)
theorem pf_not (ha : PF X a fa) : PF X (.UnaryOp .Not a pos) (fNot fa) := pe_mono (pe_not ha) fun σ H Q ⟨Av, ρ, k, hA, hE, hf, q⟩ => by
  obtain ⟨d, e1, hf⟩ := bind_some hf
  cases e2 : asB d with
  | none => rw [e2] at hf; cases hf
  | some c =>
    rw [e2] at hf
    cases hf
    have e3 := asB_some e2
    subst e3
    exact ⟨Av, ρ, _, hA, hE, e1, fun x H1 s1 r => ⟨c, r.b_inv, q _ H1 s1 (.bl _)⟩⟩
def f1 (g : Dat → Option Dat) (fa : Rho → Option Dat) : Rho → Option Dat := fun ρ => (fa ρ).bind g
def UnD (K : Fg) (r : V → Hp → VK → Prop) (g : Dat → Option Dat) : Prop := ∀ (H : Hp) (Av : AvP) (x : V) (dx d : Dat) (Q : VK), AvT H Av → RepD K H Av x dx → g dx = some d → (∀ v H', Same H H' → RepD K H' Av v d → Q v H') → r x H Q
theorem pf_un {op : UnaryOp} {r : V → Hp → VK → Prop} {g : Dat → Option Dat} (ho : UnR X (unaryOp op) r) (hd : UnD X.K r g) (ha : PF X a fa) : PF X (.UnaryOp op a pos) (f1 g fa) := pe_mono (pe_un ho ha) fun σ H Q ⟨Av, ρ, d, hA, hE, hf, q⟩ => by
  obtain ⟨dx, e1, hf⟩ := bind_some hf
  exact ⟨Av, ρ, dx, hA, hE, e1, fun x H1 s1 r1 => hd H1 Av x dx d Q (hA.same s1) r1 hf fun v H2 s2 r2 => q v H2 (s1.trans s2) r2⟩
def fNil : Rho → Option (List Dat) := fun _ => some []
def fCons (f : Rho → Option Dat) (g : Rho → Option (List Dat)) : Rho → Option (List Dat) := fun ρ => (f ρ).bind fun d => (g ρ).map (d :: ·)
theorem map_some' {α β : Type} {o : Option α} {g : α → β} {b : β} (h : o.map g = some b) : ∃ a, o = some a ∧ g a = b := by
  cases o with
  | none => cases h
  | some a => exact ⟨a, rfl, Option.some.inj h⟩
theorem pfa_nil : PFA X [] fNil := pa_mono pa_nil fun σ H Q ⟨Av, ρ, d, hA, hE, hf, q⟩ => by cases hf; exact q _ H (Same.refl H) .nil
theorem pfa_cons (ha : PF X e fa) (hr : PFA X es fs) (hs : starEach (e :: es) X.env = (false, eval e X.env) :: starEach es X.env := by rfl) : PFA X (e :: es) (fCons fa fs) := pa_mono (pa_cons ha hr hs) fun σ H Q ⟨Av, ρ, d, hA, hE, hf, q⟩ => by
  obtain ⟨dx, e1, hf⟩ := bind_some hf
  obtain ⟨ds, e2, hf⟩ := map_some' hf
  subst hf
  exact ⟨Av, ρ, dx, hA, hE, e1, fun x H1 s1 r1 => ⟨Av, ρ, ds, hA.same s1, hE.same s1, e2, fun xs H2 s2 r2 => q _ H2 (s1.trans s2) (.cons (r1.same s2) r2)⟩⟩
def fTup (g : Rho → Option (List Dat)) : Rho → Option Dat := fun ρ => (g ρ).bind fun ds => if ds.length ≤ sizeLine then some (.tuple ds) else none
def fLst (g : Rho → Option (List Dat)) : Rho → Option Dat := fun ρ => (g ρ).bind fun ds => if ds.length ≤ sizeLine then some (.list ds) else none
theorem pf_tup {k : Nat} (h : PFA X es fs) {x1} : PF X (.Tuple es x1 pos) (fTup fs) := pe_mono (pe_tup h) fun σ H Q ⟨Av, ρ, d, hA, hE, hf, q⟩ => by
  obtain ⟨ds, e1, hf⟩ := bind_some hf
  split at hf
  · rename_i hz
    cases hf
    exact ⟨Av, ρ, ds, hA, hE, e1, fun xs H1 s1 r1 => ⟨by rw [r1.length]; exact hz, fun p hp => q _ _ (s1.trans (same_new hp _)) (.newT (hA.same s1) hp r1)⟩⟩
  · cases hf
theorem pf_lst (h : PFA X es fs) : PF X (.List es pos) (fLst fs) := pe_mono (pe_lst h) fun σ H Q ⟨Av, ρ, d, hA, hE, hf, q⟩ => by
  obtain ⟨ds, e1, hf⟩ := bind_some hf
  split at hf
  · rename_i hz
    cases hf
    exact ⟨Av, ρ, ds, hA, hE, e1, fun xs H1 s1 r1 => ⟨by rw [r1.length]; exact hz, fun p hp => q _ _ (s1.trans (same_new hp _)) (.newL (hA.same s1) hp r1)⟩⟩
  · cases hf
def fCall (g : List Dat → Option Dat) (fs : Rho → Option (List Dat)) : Rho → Option Dat := fun ρ => (fs ρ).bind g
def CallD (K : Fg) (r : List V → Hp → VK → Prop) (g : List Dat → Option Dat) : Prop := ∀ (H : Hp) (Av : AvP) (xs : List V) (ds : List Dat) (d : Dat) (Q : VK), AvT H Av → RepDs K H Av xs ds → g ds = some d → (∀ v H', Same H H' → RepD K H' Av v d → Q v H') → r xs H Q
theorem tF_call {K : Fg} {r : List V → Hp → VK → Prop} {g : List Dat → Option Dat} (hr : CallD K r g) : ∀ σ H Q, tF K (fCall g fs) σ H Q → tCB r (tFA K fs) σ H Q := by
  rintro σ H Q ⟨Av, ρ, d, hA, hE, hf, q⟩
  obtain ⟨ds, e1, hf⟩ := bind_some hf
  exact ⟨Av, ρ, ds, hA, hE, e1, fun xs H1 s1 r1 => hr H1 Av xs ds d Q (hA.same s1) r1 hf fun v H2 s2 r2 => q v H2 (s1.trans s2) r2⟩
theorem pf_callB {x : Str} {p : Pos} {id : String} {r : List V → Hp → VK → Prop} {g : List Dat → Option Dat} (hc : CallR X (.builtin id) r) (hd : CallD X.K r g) (hm : X.mg x = none) (ha : PFA X (e :: es) fs) (hg : Gl X x := by rfl) (hv : bootBuiltins x = some (.builtin id) := by rfl) (hn : x ≠ "__name__" := by decide) (hdb : (x == ("__debug__" : Str)) = false := by decide)
    (he : starEach (e :: es) X.env = (false, eval e X.env) :: starEach es X.env := by rfl) (hpl : (backTo pos (starEach es X.env)).any (·.1) = false := by rfl) : PF X (.Call (.Name x p) (e :: es) [] pos) (fCall g fs) := pe_mono (pe_callB hc hg hm hv ha hn hdb he hpl) (tF_call hd)
theorem pf_callTy {x : Str} {p : Pos} {T : String} {r : List V → Hp → VK → Prop} {g : List Dat → Option Dat} (hc : CallR X (.type T) r) (hd : CallD X.K r g) (hm : X.mg x = none) (ha : PFA X (e :: es) fs) (hg : Gl X x := by rfl) (hv : bootBuiltins x = some (.type T) := by rfl) (hn : x ≠ "__name__" := by decide) (hdb : (x == ("__debug__" : Str)) = false := by decide)
    (he : starEach (e :: es) X.env = (false, eval e X.env) :: starEach es X.env := by rfl) (hpl : (backTo pos (starEach es X.env)).any (·.1) = false := by rfl) : PF X (.Call (.Name x p) (e :: es) [] pos) (fCall g fs) := pe_mono (pe_callTy hc hg hm hv ha hn hdb he hpl) (tF_call hd)
def spF (K : Fg) (n : Nat) (F : List Dat → Option Dat) : Sp := fun vs H Q _ => ∃ Av ds d, AvT H Av ∧ RepDs K H Av vs ds ∧ ds.length = n ∧ F ds = some d ∧ ∀ v H', Same H H' → RepD K H' Av v d → Q v H'
def fFn (n : Nat) (F : List Dat → Option Dat) (fs : Rho → Option (List Dat)) : Rho → Option Dat := fun ρ => (fs ρ).bind fun ds => if ds.length = n then F ds else none
theorem tF_fn {K : Fg} {n : Nat} {F : List Dat → Option Dat} {E : XK} : ∀ σ H Q, tF K (fFn n F fs) σ H Q → tCall (spF K n F) [] E (tFA K fs) σ H Q := by
  rintro σ H Q ⟨Av, ρ, d, hA, hE, hf, q⟩
  obtain ⟨ds, e1, hf⟩ := bind_some hf
  split at hf
  · rename_i hl
    exact ⟨Av, ρ, ds, hA, hE, e1, fun xs H1 s1 r1 => ⟨Av, ds, d, hA.same s1, by rw [List.append_nil]; exact r1, hl, hf, fun v H2 s2 r2 => q v H2 (s1.trans s2) r2⟩⟩
  · cases hf
structure Dn (P : Program) (w : World) (K : Fg) (mg : Str → Option Value) (base : Heap) (k : Nat) (x : Str) (ps : List Str) (n : Nat) (F : List Dat → Option Dat) : Prop where
  ex : ∃ (f : Addr) (fd : FuncData), FnOk P w K mg base CX0 k f fd ps (spF K n F) ∧ mg x = some (.ref f) ∧ PySem.W.keepIn K (.ref f) = true ∧ Binds K fd ps []
theorem Dn.up {P : Program} {w : World} {K : Fg} {mg : Str → Option Value} {base : Heap} {j k : Nat} {x : Str} {ps : List Str} {n : Nat} {F : List Dat → Option Dat} (D : Dn P w K mg base j x ps n F) (h : j ≤ k) : Dn P w K mg base k x ps n F := by
  obtain ⟨f, fd, h1, h2⟩ := D.ex
  exact ⟨f, fd, h1.mono h, h2⟩
theorem pf_fn {x : Str} {p : Pos} {k n : Nat} {ps : List Str} {F : List Dat → Option Dat} (D : Dn X.prog X.w X.K X.mg X.base k x ps n F) (hr : Room k X.A) (ha : PFA X (e :: es) fs) (hg : Gl X x := by rfl) (hdb : (x == ("__debug__" : Str)) = false := by decide)
    (he : starEach (e :: es) X.env = (false, eval e X.env) :: starEach es X.env := by rfl) (hpl : (backTo pos (starEach es X.env)).any (·.1) = false := by rfl) : PF X (.Call (.Name x p) (e :: es) [] pos) (fFn n F fs) := by
  obtain ⟨f, fd, h1, h2, h3, h4⟩ := D.ex
  exact pe_mono (pe_call h1 hr hg h2 h3 h4 .nil pass0 ha hdb he hpl) tF_fn
end
end L3
namespace L3
open PySem PySem.Spec PyProof.Rows L2
open PySem.W (Dat)
inductive Slot where
  | imm (d : Dat)
  | own (ds : List Dat)
  | obj (O : Addr → List V → Heap → Prop) (ds : List Dat)
def Slot.mt : Slot → Bool
  | .imm _ => false
  | _ => true
abbrev Gam := List (Option Slot)
def immV (Γ : Gam) : Rho := Γ.map fun o => match o with | some (.imm d) => some d | _ => none
def allV (Γ : Gam) : Rho := Γ.map fun o => match o with | some (.imm d) => some d | some (.own ds) => some (.list ds) | _ => none
def AvG (Av : AvP) (Γ : Gam) (ad : Nat → Addr) : AvP := fun a => Av a ∨ ∃ (i : Nat) (s : Slot), Γ[i]? = some (some s) ∧ s.mt = true ∧ ad i = a
abbrev Hid := List (V × Dat)
structure GA (K : Fg) (H₀ : Hp) (Av : AvP) (pn : Option Addr) (hid : Hid) (H : Hp) (σ : L2.St) (Γ : Gam) (ad : Nat → Addr) : Prop where
  same : Same H₀ H
  avt : AvT H₀ Av
  len : σ.length = Γ.length
  imm : ∀ (i : Nat) (d : Dat), Γ[i]? = some (some (.imm d)) → ∃ v, σ[i]? = some (some v) ∧ RepD K H (AvG Av Γ ad) v d
  own : ∀ (i : Nat) (ds : List Dat), Γ[i]? = some (some (.own ds)) → ∃ xs, σ[i]? = some (some (.ref (ad i))) ∧ H (ad i) = some (.lst xs) ∧ RepDs K H (AvG Av Γ ad) xs ds ∧ H₀ (ad i) = none
  inj : ∀ (i j : Nat) (s t : Slot), Γ[i]? = some (some s) → Γ[j]? = some (some t) → s.mt = true → t.mt = true → ad i = ad j → i = j
  hid : ∀ p ∈ hid, RepD K H (AvG Av Γ ad) p.1 p.2
  pin : ∀ a ds, pn = some a → Γ[0]? = some (some (.own ds)) → ad 0 = a
  obj : ∀ (i : Nat) (O : Addr → List V → Heap → Prop) (ds : List Dat), Γ[i]? = some (some (.obj O ds)) → ∃ xs, σ[i]? = some (some (.ref (ad i))) ∧ H (ad i) = some (.ext (O (ad i) xs)) ∧ RepDs K H (AvG Av Γ ad) xs ds ∧ H₀ (ad i) = none
def GEnv (K : Fg) (H₀ : Hp) (Av : AvP) (pn : Option Addr) (hid : Hid) (H : Hp) (σ : L2.St) (Γ : Gam) : Prop := ∃ ad, GA K H₀ Av pn hid H σ Γ ad
section
variable {K : Fg} {H₀ H H' : Hp} {Av : AvP} {pn : Option Addr} {hid : Hid} {σ : L2.St} {Γ : Gam} {ad : Nat → Addr}
theorem GA.mt (G : GA K H₀ Av pn hid H σ Γ ad) {i : Nat} {s : Slot} (h : Γ[i]? = some (some s)) (m : s.mt = true) : (∃ o, H (ad i) = some o) ∧ H₀ (ad i) = none := by
  cases s with
  | imm d => cases m
  | own ds => obtain ⟨xs, _, a, _, b⟩ := G.own i ds h; exact ⟨⟨_, a⟩, b⟩
  | obj O ds => obtain ⟨xs, _, a, _, b⟩ := G.obj i O ds h; exact ⟨⟨_, a⟩, b⟩
theorem GA.injO (G : GA K H₀ Av pn hid H σ Γ ad) (i j : Nat) (ds es : List Dat) (h1 : Γ[i]? = some (some (.own ds))) (h2 : Γ[j]? = some (some (.own es))) (e : ad i = ad j) : i = j := G.inj i j _ _ h1 h2 rfl rfl e
theorem GA.avG (G : GA K H₀ Av pn hid H σ Γ ad) : AvT H (AvG Av Γ ad) := by
  rintro a (z | ⟨i, s, e, m, rfl⟩)
  · exact (G.avt.same G.same) a z
  · exact (G.mt e m).1
theorem GA.envI (G : GA K H₀ Av pn hid H σ Γ ad) : REnv K H (AvG Av Γ ad) σ (immV Γ) := fun i d e => by
  unfold immV at e
  rw [List.getElem?_map] at e
  cases h : Γ[i]? with
  | none => rw [h] at e; cases e
  | some o =>
    rw [h] at e
    cases o with
    | none => cases e
    | some s =>
      cases s with
      | imm d' => cases e; exact G.imm i d h
      | own ds => cases e
      | obj O ds => cases e
theorem GA.envA (G : GA K H₀ Av pn hid H σ Γ ad) : REnv K H Av σ (allV Γ) := fun i d e => by
  unfold allV at e
  rw [List.getElem?_map] at e
  cases h : Γ[i]? with
  | none => rw [h] at e; cases e
  | some o =>
    rw [h] at e
    cases o with
    | none => cases e
    | some s =>
      cases s with
      | imm d' =>
        cases e
        obtain ⟨v, h1, h2⟩ := G.imm i d h
        exact ⟨v, h1, h2.weak fun _ z => .inl z⟩
      | own ds =>
        cases e
        obtain ⟨xs, h1, h2, h3, h4⟩ := G.own i ds h
        refine ⟨_, h1, .lst (.inl ⟨.inl h2, fun z => ?_⟩) (h3.weak fun _ z => .inl z)⟩
        obtain ⟨o, q⟩ := G.avt _ z
        rw [h4] at q; cases q
      | obj O ds => cases e
theorem GA.grow (G : GA K H₀ Av pn hid H σ Γ ad) (e : Same H H') : GA K H₀ Av pn hid H' σ Γ ad :=
  ⟨G.same.trans e, G.avt, G.len, fun i d h => let ⟨v, a, r⟩ := G.imm i d h; ⟨v, a, r.same e⟩, fun i ds h => let ⟨xs, a, b, r, c⟩ := G.own i ds h; ⟨xs, a, e _ _ b, r.same e, c⟩, G.inj, fun p hp => (G.hid p hp).same e, G.pin, fun i O ds h => let ⟨xs, a, b, r, c⟩ := G.obj i O ds h; ⟨xs, a, e _ _ b, r.same e, c⟩⟩
theorem set_get {α : Type} {l : List α} {i j : Nat} {a b : α} (h : (l.set i a)[j]? = some b) : (j = i ∧ b = a) ∨ (j ≠ i ∧ l[j]? = some b) := by
  by_cases e : j = i
  · subst e
    left
    refine ⟨rfl, ?_⟩
    by_cases hl : j < l.length
    · rw [List.getElem?_set_self hl] at h; exact (Option.some.inj h).symm
    · rw [List.getElem?_eq_none (by rw [List.length_set]; omega)] at h; cases h
  · right
    rw [List.getElem?_set_ne (Ne.symm e)] at h
    exact ⟨e, h⟩
theorem get_lt {α : Type} {l : List α} {i : Nat} {a : α} (h : l[i]? = some a) : i < l.length := (List.getElem?_eq_some_iff.mp h).1
theorem AvG.set_imm {i : Nat} {d : Dat} : ∀ a, AvG Av (Γ.set i (some (.imm d))) ad a → AvG Av Γ ad a := by
  rintro a (z | ⟨j, s, e, m, r⟩)
  · exact .inl z
  · rcases set_get e with ⟨_, q⟩ | ⟨_, q⟩
    · cases q; cases m
    · exact .inr ⟨j, s, q, m, r⟩
theorem GA.set (G : GA K H₀ Av pn hid H σ Γ ad) {v : V} {d : Dat} (i : Nat) (r : RepD K H (AvG Av Γ ad) v d) : GA K H₀ Av pn hid H (σ.set i (some v)) (Γ.set i (some (.imm d))) ad := by
  refine ⟨G.same, G.avt, by rw [List.length_set, List.length_set]; exact G.len, fun j d' h => ?_, fun j ds h => ?_, fun j k s t h1 h2 m1 m2 e => ?_, fun p hp => (G.hid p hp).weak AvG.set_imm, fun a ds e h => ?_, fun j O ds h => ?_⟩
  · have hlt := get_lt h
    rw [List.length_set] at hlt
    rcases set_get h with ⟨e, q⟩ | ⟨e, q⟩
    · subst e
      cases q
      exact ⟨v, List.getElem?_set_self (by rw [G.len]; exact hlt), r.weak AvG.set_imm⟩
    · obtain ⟨u, a, b⟩ := G.imm j d' q
      exact ⟨u, by rw [List.getElem?_set_ne (Ne.symm e)]; exact a, b.weak AvG.set_imm⟩
  · rcases set_get h with ⟨e, q⟩ | ⟨e, q⟩
    · cases q
    · obtain ⟨xs, a, b, c, e'⟩ := G.own j ds q
      exact ⟨xs, by rw [List.getElem?_set_ne (Ne.symm e)]; exact a, b, c.weak AvG.set_imm, e'⟩
  · rcases set_get h1 with ⟨_, q⟩ | ⟨_, q1⟩
    · cases q; cases m1
    rcases set_get h2 with ⟨_, q⟩ | ⟨_, q2⟩
    · cases q; cases m2
    exact G.inj j k s t q1 q2 m1 m2 e
  · rcases set_get h with ⟨_, q⟩ | ⟨_, q⟩
    · cases q
    · exact G.pin a ds e q
  · rcases set_get h with ⟨e, q⟩ | ⟨e, q⟩
    · cases q
    · obtain ⟨xs, a, b, c, e'⟩ := G.obj j O ds q
      exact ⟨xs, by rw [List.getElem?_set_ne (Ne.symm e)]; exact a, b, c.weak AvG.set_imm, e'⟩
theorem GA.setOwn (G : GA K H₀ Av pn hid H σ Γ ad) {p : Addr} {xs : List V} {ds : List Dat} (i : Nat) (hi0 : i ≠ 0) (hp : H p = none) (r : RepDs K H (AvG Av Γ ad) xs ds) :
    GA K H₀ Av pn hid (upd H p (.lst xs)) (σ.set i (some (.ref p))) (Γ.set i (some (.own ds))) (fun j => if j = i then p else ad j) := by
  have sm : Same H (upd H p (.lst xs)) := same_new hp _
  have npe : ∀ j s, Γ[j]? = some (some s) → Slot.mt s = true → ad j ≠ p := fun j s h m => by
    obtain ⟨⟨o, b⟩, _⟩ := G.mt h m
    exact ne_of_none b hp
  have kp : Keep H (AvG Av Γ ad) (upd H p (.lst xs)) (AvG Av (Γ.set i (some (.own ds))) (fun j => if j = i then p else ad j)) := by
    intro b o h n
    refine ⟨sm b o h, ?_⟩
    rintro (z | ⟨j, es, e, m, r⟩)
    · exact n (.inl z)
    · rcases set_get e with ⟨e1, _⟩ | ⟨e1, q⟩
      · have r' : p = b := by simpa [e1] using r
        exact ne_of_none h hp r'.symm
      · have r' : ad j = b := by simpa [e1] using r
        exact n (.inr ⟨j, es, q, m, r'⟩)
  have oldS : ∀ {vs : List V} {d : List Dat}, RepDs K H (AvG Av Γ ad) vs d → RepDs K (upd H p (.lst xs)) (AvG Av (Γ.set i (some (.own ds))) (fun j => if j = i then p else ad j)) vs d := fun h => h.mono kp
  · refine ⟨G.same.trans sm, G.avt, by rw [List.length_set, List.length_set]; exact G.len, fun j d' h => ?_, fun j es h => ?_, fun j l es fs h1 h2 m1 m2 e => ?_, fun q hq => (G.hid q hq).mono kp, fun a es e h => ?_, fun j O es h => ?_⟩
    · rcases set_get h with ⟨e, q⟩ | ⟨e, q⟩
      · cases q
      · obtain ⟨u, a, b⟩ := G.imm j d' q
        exact ⟨u, by rw [List.getElem?_set_ne (Ne.symm e)]; exact a, b.mono kp⟩
    · have hlt := get_lt h
      rw [List.length_set] at hlt
      rcases set_get h with ⟨e, q⟩ | ⟨e, q⟩
      · subst e
        cases q
        refine ⟨xs, ?_, ?_, oldS r, ?_⟩
        · rw [if_pos rfl]; exact List.getElem?_set_self (by rw [G.len]; exact hlt)
        · rw [if_pos rfl]; exact upd_same
        · rw [if_pos rfl]
          cases e0 : H₀ p with
          | none => rfl
          | some o => have := G.same p o e0; rw [hp] at this; cases this
      · obtain ⟨ys, a, b, c, e'⟩ := G.own j es q
        refine ⟨ys, ?_, ?_, oldS c, ?_⟩
        · rw [if_neg e, List.getElem?_set_ne (Ne.symm e)]; exact a
        · rw [if_neg e]; exact sm _ _ b
        · rw [if_neg e]; exact e'
    · rcases set_get h1 with ⟨e1, q1⟩ | ⟨e1, q1⟩
      · rcases set_get h2 with ⟨e2, q2⟩ | ⟨e2, q2⟩
        · rw [e1, e2]
        · rw [if_pos e1, if_neg e2] at e
          exact absurd e.symm (npe l fs q2 m2)
      · rcases set_get h2 with ⟨e2, q2⟩ | ⟨e2, q2⟩
        · rw [if_neg e1, if_pos e2] at e
          exact absurd e (npe j es q1 m1)
        · rw [if_neg e1, if_neg e2] at e
          exact G.inj j l es fs q1 q2 m1 m2 e
    · rcases set_get h with ⟨z, _⟩ | ⟨_, q⟩
      · exact absurd z.symm hi0
      · show (if 0 = i then p else ad 0) = a
        rw [if_neg (Ne.symm hi0)]
        exact G.pin a es e q
    · rcases set_get h with ⟨e, q⟩ | ⟨e, q⟩
      · cases q
      · obtain ⟨ys, a, b, c, e'⟩ := G.obj j O es q
        refine ⟨ys, ?_, ?_, oldS c, ?_⟩
        · rw [if_neg e, List.getElem?_set_ne (Ne.symm e)]; exact a
        · rw [if_neg e]; exact sm _ _ b
        · rw [if_neg e]; exact e'
theorem GA.change (G : GA K H₀ Av pn hid H σ Γ ad) {i : Nat} {ds es : List Dat} {ys : List V} (hi : Γ[i]? = some (some (.own ds))) (r : RepDs K H (AvG Av Γ ad) ys es) :
    GA K H₀ Av pn hid (upd H (ad i) (.lst ys)) σ (Γ.set i (some (.own es))) ad := by
  have hlt : i < Γ.length := get_lt hi
  have av : ∀ a, AvG Av (Γ.set i (some (.own es))) ad a → AvG Av Γ ad a := by
    rintro a (z | ⟨j, fs, e, m, q⟩)
    · exact .inl z
    · rcases set_get e with ⟨e1, _⟩ | ⟨e1, q1⟩
      · subst e1; exact .inr ⟨j, _, hi, rfl, q⟩
      · exact .inr ⟨j, fs, q1, m, q⟩
  have kp : Keep H (AvG Av Γ ad) (upd H (ad i) (.lst ys)) (AvG Av (Γ.set i (some (.own es))) ad) := by
    intro b o h n
    refine ⟨?_, fun z => n (av b z)⟩
    rw [upd_ne fun z => n (.inr ⟨i, _, hi, rfl, z.symm⟩)]
    exact h
  obtain ⟨xs0, g1, g2, g3, g4⟩ := G.own i ds hi
  refine ⟨fun b o h => ?_, G.avt, by rw [List.length_set]; exact G.len, fun j d' h => ?_, fun j fs h => ?_, fun j l fs gs h1 h2 m1 m2 e => ?_, fun p hp => (G.hid p hp).mono kp, fun a fs e h => ?_, fun j O fs h => ?_⟩
  · rw [upd_ne (ne_of_none h g4)]; exact G.same b o h
  · rcases set_get h with ⟨e, q⟩ | ⟨e, q⟩
    · cases q
    · obtain ⟨u, a, b⟩ := G.imm j d' q
      exact ⟨u, a, b.mono kp⟩
  · rcases set_get h with ⟨e, q⟩ | ⟨e, q⟩
    · subst e
      cases q
      exact ⟨ys, g1, upd_same, r.mono kp, g4⟩
    · obtain ⟨zs, a, b, c, e'⟩ := G.own j fs q
      refine ⟨zs, a, ?_, c.mono kp, e'⟩
      rw [upd_ne fun z => e (G.injO j i fs ds q hi z)]
      exact b
  · rcases set_get h1 with ⟨e1, q1⟩ | ⟨e1, q1⟩
    · rcases set_get h2 with ⟨e2, q2⟩ | ⟨e2, q2⟩
      · rw [e1, e2]
      · subst e1; exact G.inj j l _ gs hi q2 rfl m2 e
    · rcases set_get h2 with ⟨e2, q2⟩ | ⟨e2, q2⟩
      · subst e2; exact G.inj j l fs _ q1 hi m1 rfl e
      · exact G.inj j l fs gs q1 q2 m1 m2 e
  · rcases set_get h with ⟨z, _⟩ | ⟨_, q⟩
    · subst z; exact G.pin a ds e hi
    · exact G.pin a fs e q
  · rcases set_get h with ⟨e, q⟩ | ⟨e, q⟩
    · cases q
    · obtain ⟨zs, a, b, c, e'⟩ := G.obj j O fs q
      refine ⟨zs, a, ?_, c.mono kp, e'⟩
      rw [upd_ne fun z => e (G.inj j i _ _ q hi rfl rfl z)]
      exact b
theorem GA.hide (G : GA K H₀ Av pn hid H σ Γ ad) {v : V} {d : Dat} (r : RepD K H (AvG Av Γ ad) v d) : GA K H₀ Av pn ((v, d) :: hid) H σ Γ ad :=
  ⟨G.same, G.avt, G.len, G.imm, G.own, G.inj, fun p hp => by
    rcases List.mem_cons.mp hp with e | h
    · subst e; exact r
    · exact G.hid p h, G.pin, G.obj⟩
theorem GA.unhide {v : V} {d : Dat} (G : GA K H₀ Av pn ((v, d) :: hid) H σ Γ ad) : GA K H₀ Av pn hid H σ Γ ad :=
  ⟨G.same, G.avt, G.len, G.imm, G.own, G.inj, fun p hp => G.hid p (List.mem_cons_of_mem _ hp), G.pin, G.obj⟩
end
inductive Fl where
  | nx (Γ : Gam) | rt (d : Dat) | bk (Γ : Gam) | ct (Γ : Gam) | rm (d : Dat) (Γ : Gam)
def endF (K : Fg) (H₀ : Hp) (Av : AvP) (pn : Option Addr) (hid : Hid) (D : Ends) : Fl → Prop
  | .nx Γ => ∀ σ H, GEnv K H₀ Av pn hid H σ Γ → D.nx σ H
  | .rt d => ∀ v H, Same H₀ H → RepD K H Av v d → D.rt v H
  | .bk Γ => ∀ σ H, GEnv K H₀ Av pn hid H σ Γ → D.bk σ H
  | .ct Γ => ∀ σ H, GEnv K H₀ Av pn hid H σ Γ → D.ct σ H
  | .rm d Γ => ∀ σ v H ad, GA K H₀ Av pn hid H σ Γ ad → RepD K H (AvG Av Γ ad) v d → D.rt v H
def tSF (K : Fg) (g : Gam → Option Fl) : TS := fun D σ H => ∃ H₀ Av pn hid Γ fl, GEnv K H₀ Av pn hid H σ Γ ∧ g Γ = some fl ∧ endF K H₀ Av pn hid D fl
abbrev PSF (X : Cx) (st : Stmt) (g : Gam → Option Fl) : Prop := PS X st (tSF X.K g)
abbrev PSFs (X : Cx) (st : List Stmt) (g : Gam → Option Fl) : Prop := PSs X st (tSF X.K g)
section
variable {X : Cx} {st : Stmt} {rest : List Stmt} {e : Expr} {f : Rho → Option Dat} {ft : Rho → Option Bool} {g g1 g2 : Gam → Option Fl} {pos : Pos}
theorem ps_mono {t t' : TS} (h : PS X st t) (m : ∀ D σ H, t' D σ H → t D σ H) : PS X st t' := fun pins s σ H D I q => h pins s σ H D I (m D σ H q)
theorem pss_mono {t t' : TS} (h : PSs X rest t) (m : ∀ D σ H, t' D σ H → t D σ H) : PSs X rest t' := fun pins s σ H D I q => h pins s σ H D I (m D σ H q)
def sSkip : Gam → Option Fl := fun Γ => some (.nx Γ)
def sSeq (g1 g2 : Gam → Option Fl) : Gam → Option Fl := fun Γ => (g1 Γ).bind fun fl => match fl with
  | .nx Γ' => g2 Γ'
  | .rt d => some (.rt d)
  | .bk Γ' => some (.bk Γ')
  | .ct Γ' => some (.ct Γ')
  | .rm d Γ' => some (.rm d Γ')
theorem psf_nil : PSFs X [] sSkip := pss_mono pss_nil fun D σ H ⟨H₀, Av, pn, hid, Γ, fl, G, hf, q⟩ => by cases hf; exact q σ H G
theorem psf_one (h : PSF X st g) : PSFs X [st] g := pss_one h
theorem psf_cons (h1 : PSF X st g1) (h2 : PSFs X rest g2) : PSFs X (st :: rest) (sSeq g1 g2) := pss_mono (pss_cons h1 h2) fun D σ H ⟨H₀, Av, pn, hid, Γ, fl, G, hf, q⟩ => by
  obtain ⟨fl1, e1, hf⟩ := bind_some hf
  refine ⟨H₀, Av, pn, hid, Γ, fl1, G, e1, ?_⟩
  cases fl1 with
  | nx Γ' => exact fun σ' H' G' => ⟨H₀, Av, pn, hid, Γ', fl, G', hf, q⟩
  | rt d => cases hf; exact q
  | bk Γ' => cases hf; exact q
  | ct Γ' => cases hf; exact q
  | rm d Γ' => cases hf; exact q
def sRet (f : Rho → Option Dat) : Gam → Option Fl := fun Γ => (f (allV Γ)).map .rt
theorem psf_ret (h : PF X e f) : PSF X (.Return (some e) pos) (sRet f) := ps_mono (ps_ret h) fun D σ H ⟨H₀, Av, pn, hid, Γ, fl, ⟨ad, G⟩, hf, q⟩ => by
  obtain ⟨d, e1, hf⟩ := map_some' hf
  subst hf
  exact ⟨Av, allV Γ, d, G.avt.same G.same, G.envA, e1, fun v H' s r => q v H' (G.same.trans s) r⟩
def sIf (ft : Rho → Option Bool) (g1 g2 : Gam → Option Fl) : Gam → Option Fl := fun Γ => (ft (allV Γ)).bind fun c => if c = true then g1 Γ else g2 Γ
theorem psf_if {c : Expr} {a b : List Stmt} (hc : PFT X c ft) (ha : PSFs X a g1) (hb : PSFs X b g2) : PSF X (.If c a b pos) (sIf ft g1 g2) := ps_mono (ps_if hc ha hb) fun D σ H ⟨H₀, Av, pn, hid, Γ, fl, ⟨ad, G⟩, hf, q⟩ => by
  obtain ⟨k, e1, hf⟩ := bind_some hf
  refine ⟨Av, allV Γ, k, G.avt.same G.same, G.envA, e1, fun H' s => ?_⟩
  cases k with
  | true => rw [if_pos rfl] at hf ⊢; exact ⟨H₀, Av, pn, hid, Γ, fl, ⟨ad, G.grow s⟩, hf, q⟩
  | false => rw [if_neg Bool.false_ne_true] at hf ⊢; exact ⟨H₀, Av, pn, hid, Γ, fl, ⟨ad, G.grow s⟩, hf, q⟩
def scD : Dat → Bool
  | .none => true | .bool _ => true | .int _ => true | .str _ => true
  | _ => false
theorem RepD.sc {K : Fg} {H : Hp} {Av Av' : AvP} {v : V} {d : Dat} (h : RepD K H Av v d) (s : scD d = true) : RepD K H Av' v d := by
  cases h with
  | non => exact .non
  | bl b => exact .bl b
  | int i => exact .int i
  | str x => exact .str x
  | tup _ _ => cases s
  | lst _ _ => cases s
def sSet (i : Nat) (f : Rho → Option Dat) : Gam → Option Fl := fun Γ => match f (immV Γ) with
  | some d => some (.nx (Γ.set i (some (.imm d))))
  | none => (f (allV Γ)).bind fun d => if scD d = true then some (.nx (Γ.set i (some (.imm d)))) else none
theorem tSet_F {K : Fg} {i : Nat} : ∀ D σ H, tSF K (sSet i f) D σ H → tAsg (tF K f) (gName i) D σ H := by
  rintro D σ H ⟨H₀, Av, pn, hid, Γ, fl, ⟨ad, G⟩, hf, q⟩
  unfold sSet at hf
  split at hf
  · rename_i d e1
    cases hf
    exact ⟨AvG Av Γ ad, immV Γ, d, G.avG, G.envI, e1, fun v H' s r => q _ _ ⟨ad, (G.grow s).set i r⟩⟩
  · obtain ⟨d, e1, hf⟩ := bind_some hf
    split at hf
    · rename_i hs
      cases hf
      exact ⟨Av, allV Γ, d, G.avt.same G.same, G.envA, e1, fun v H' s r => q _ _ ⟨ad, (G.grow s).set i (r.sc hs)⟩⟩
    · cases hf
theorem psf_set (i : Nat) {x : Str} {pos' : Pos} (hN : X.N.Nodup) (h : PF X e f) (hi : X.N[i]? = some x := by rfl) (hx : Loc X.env.scope x := by first | exact .inl rfl | exact .inr rfl) (hs : swapsWith e (some (.Name x pos')) pos.line X.env = pure false := by rfl) (hf : X.fn x = true ∨ X.env.scope.names.lookup x = some .local := by first | exact .inl rfl | exact .inr rfl) :
    PSF X (.Assign [.Name x pos'] e pos) (sSet i f) := ps_mono (ps_set hN hi hx h hs hf) tSet_F
abbrev Asg := List (Nat × Dat)
inductive RepA (K : Fg) (H : Hp) (Av : AvP) : List (Nat × V) → Asg → Prop
  | nil : RepA K H Av [] []
  | cons {i : Nat} {v : V} {d : Dat} {vs : List (Nat × V)} {ds : Asg} : RepD K H Av v d → RepA K H Av vs ds → RepA K H Av ((i, v) :: vs) ((i, d) :: ds)
def setV (σ : L2.St) (ws : List (Nat × V)) : L2.St := ws.foldl (fun σ p => σ.set p.1 (some p.2)) σ
def setG (Γ : Gam) (ws : Asg) : Gam := ws.foldl (fun Γ p => Γ.set p.1 (some (.imm p.2))) Γ
def setR (ρ : Rho) (ws : Asg) : Rho := ws.foldl (fun ρ p => ρ.set p.1 (some p.2)) ρ
theorem RepA.append {K : Fg} {H : Hp} {Av : AvP} : ∀ {a b : List (Nat × V)} {c d : Asg}, RepA K H Av a c → RepA K H Av b d → RepA K H Av (a ++ b) (c ++ d)
  | _, _, _, _, .nil, s => s
  | _, _, _, _, .cons h r, s => .cons h (RepA.append r s)
def tGF (K : Fg) (gt : Dat → Option Asg) : TG := fun v σ H Q => ∃ Av d as, RepD K H Av v d ∧ gt d = some as ∧ ∀ ws, RepA K H Av ws as → Q (setV σ ws) H
def tGFs (K : Fg) (gt : List Dat → Option Asg) : TGs := fun vs σ H Q => ∃ Av ds as, RepDs K H Av vs ds ∧ gt ds = some as ∧ ∀ ws, RepA K H Av ws as → Q (setV σ ws) H
theorem pg_mono {t t' : TG} {tg : Expr} (h : PG X tg t) (m : ∀ v σ H Q, t' v σ H Q → t v σ H Q) : PG X tg t' := fun pins s σ H v u Q I r q => h pins s σ H v u Q I r (m v σ H Q q)
theorem pgs_mono {t t' : TGs} {tg : List Expr} (h : PGs X tg t) (m : ∀ v σ H Q, t' v σ H Q → t v σ H Q) : PGs X tg t' := fun pins s σ H v u Q I r q => h pins s σ H v u Q I r (m v σ H Q q)
def aName (i : Nat) : Dat → Option Asg := fun d => some [(i, d)]
def aNil : List Dat → Option Asg := fun ds => match ds with | [] => some [] | _ => none
def aCons (g : Dat → Option Asg) (gs : List Dat → Option Asg) : List Dat → Option Asg := fun ds => match ds with
  | [] => none
  | d :: r => (g d).bind fun a => (gs r).map (a ++ ·)
def aTup (n : Nat) (gs : List Dat → Option Asg) : Dat → Option Asg := fun d => match d with
  | .tuple ds => if ds.length = n then gs ds else none
  | _ => none
theorem pgf_name (i : Nat) {x : Str} (hN : X.N.Nodup) (hi : X.N[i]? = some x := by rfl) (hx : Loc X.env.scope x := by first | exact .inl rfl | exact .inr rfl) (hf : X.fn x = true ∨ X.env.scope.names.lookup x = some .local := by first | exact .inl rfl | exact .inr rfl) : PG X (.Name x pos) (tGF X.K (aName i)) :=
  pg_mono (pg_name hN hi hx hf) fun v σ H Q ⟨Av, d, as, r, e, q⟩ => by cases e; exact q [(i, v)] (.cons r .nil)
theorem pgfs_nil : PGs X [] (tGFs X.K aNil) := pgs_mono pgs_nil fun vs σ H Q ⟨Av, ds, as, r, e, q⟩ => by
  cases r with
  | nil => cases e; exact ⟨rfl, q [] .nil⟩
  | cons _ _ => cases e
theorem pgfs_cons {tg : Expr} {tgs : List Expr} {gt : Dat → Option Asg} {gts : List Dat → Option Asg} (h1 : PG X tg (tGF X.K gt)) (h2 : PGs X tgs (tGFs X.K gts))
    (hs : (assignEach (tg :: tgs) X.env).map (·.2) = assign tg X.env :: (assignEach tgs X.env).map (·.2) := by rfl) : PGs X (tg :: tgs) (tGFs X.K (aCons gt gts)) := pgs_mono (pgs_cons h1 h2 hs) fun vs σ H Q ⟨Av, ds, as, r, e, q⟩ => by
  cases r with
  | nil => cases e
  | @cons v vs' d ds' rd rr =>
    obtain ⟨a, e1, e⟩ := bind_some (show (gt d).bind _ = some as from e)
    obtain ⟨b, e2, e⟩ := map_some' e
    subst e
    refine ⟨v, vs', rfl, Av, d, a, rd, e1, fun ws hw => ⟨Av, ds', b, rr, e2, fun us hu => ?_⟩⟩
    have := q (ws ++ us) (hw.append hu)
    unfold setV at this ⊢
    rw [List.foldl_append] at this
    exact this
theorem pgf_tup {tgs : List Expr} {k : Nat} {gts : List Dat → Option Asg} {n : Nat} (hc : X.calm = true) (h : PGs X tgs (tGFs X.K gts)) (hn : (assignEach tgs X.env).length = n := by rfl) (hst : (assignEach tgs X.env).findIdx? (·.1) = none := by rfl) :
    PG X (.Tuple tgs k pos) (tGF X.K (aTup n gts)) := pg_mono (pg_tup hc h hn hst) fun v σ H Q ⟨Av, d, as, r, e, q⟩ => by
  unfold aTup at e
  split at e
  · split at e
    · rename_i ds hl
      obtain ⟨a, xs, rfl, hq, rs⟩ := r.t_inv
      exact ⟨a, xs, rfl, hq.sq, by rw [rs.length]; exact hl, Av, ds, as, rs, e, q⟩
    · cases e
  · cases e
theorem GA.setAll {K : Fg} {H₀ H : Hp} {Av : AvP} {pn : Option Addr} {hid : Hid} {Γ0 : Gam} {ad : Nat → Addr} {ws : List (Nat × V)} {as : Asg} {σ : L2.St} {Γ : Gam} (h : RepA K H (AvG Av Γ0 ad) ws as) (hw : ∀ a, AvG Av Γ ad a → AvG Av Γ0 ad a) (G : GA K H₀ Av pn hid H σ Γ ad) :
    GA K H₀ Av pn hid H (setV σ ws) (setG Γ as) ad := by
  induction h generalizing σ Γ with
  | nil => exact G
  | @cons i v d vs ds h r ih => exact ih (σ := σ.set i (some v)) (Γ := Γ.set i (some (.imm d))) (fun a z => hw a (AvG.set_imm a z)) (G.set i (h.weak hw))
def sAsg (gt : Dat → Option Asg) (f : Rho → Option Dat) : Gam → Option Fl := fun Γ => (f (immV Γ)).bind fun d => (gt d).map fun as => .nx (setG Γ as)
theorem psf_asg {tg : Expr} {gt : Dat → Option Asg} (h : PF X e f) (hg : PG X tg (tGF X.K gt)) (hs : swapsWithSole [tg] e pos.line X.env = pure false := by rfl) (hw : swappedStores [tg] e X.env = pure none := by rfl)
    (h1 : (assignEach [tg] X.env).map (·.2) = [assign tg X.env] := by rfl) : PSF X (.Assign [tg] e pos) (sAsg gt f) := ps_mono (ps_asg h hg hs hw h1) fun D σ H ⟨H₀, Av, pn, hid, Γ, fl, ⟨ad, G⟩, hf, q⟩ => by
  obtain ⟨d, e1, hf⟩ := bind_some hf
  obtain ⟨as, e2, hf⟩ := map_some' hf
  subst hf
  exact ⟨AvG Av Γ ad, immV Γ, d, G.avG, G.envI, e1, fun v H' s r => ⟨AvG Av Γ ad, d, as, r, e2, fun ws hw => q _ _ ⟨ad, GA.setAll hw (fun _ z => z) (G.grow s)⟩⟩⟩
end
end L3
namespace L3
open PySem PySem.Spec PyProof.Rows L2
open PySem.W (Dat)
section
variable {X : Cx} {st : Stmt} {rest : List Stmt} {e : Expr} {es : List Expr} {f : Rho → Option Dat} {fs : Rho → Option (List Dat)} {ft : Rho → Option Bool} {g g1 g2 : Gam → Option Fl} {pos : Pos}
def iSeq (K : Fg) (tl : TE) : TI := fun σ H R => tl σ H fun x H1 => ∃ a, x = .ref a ∧ (((∃ xs, SqL K H1 a xs) ∧ R (Itl K a) H1) ∨ ((∃ xs, SqT K H1 a xs) ∧ R (Itt K a) H1))
theorem pi_seq {tg l : Expr} {tl : TE} (hl : PE X l tl) : PI X tg l (iSeq X.K tl) := by
  intro pins s σ H R I h
  refine thn (hl pins s σ H _ I h) fun v s1 ⟨x, H1, I1, r1, q1⟩ => ?_
  obtain ⟨a, e, q⟩ := q1
  subst e
  cases r1
  rcases q with ⟨⟨xs, hq⟩, q⟩ | ⟨⟨xs, hq⟩, q⟩
  · obtain ⟨its, rv, p, hz⟩ := I1.list hq
    refine wpAny_pyIter_list p.isList ?_
    refine ⟨s1.heap.objs.size, [s1.heap.objs.size], _, _, H1, rfl, I1.kept (t' := s1.toks) fun b o e => Heap.get?_push_of_some _ e, turn_list a _, ⟨_, Heap.get?_push_size _ rfl, rfl, rfl⟩, fun b hb => ?_, q⟩
    have e : b = s1.heap.objs.size := by simpa using hb
    subst e
    exact I1.fpOk (Nat.le_refl _) (I1.hok.fresh (Nat.le_refl _))
  · obtain ⟨its, rv, p, hz⟩ := I1.tuple hq
    refine wpAny_pyIter_tuple (show s1.heap.IsTuple a its.toArray from p) ?_
    refine ⟨s1.heap.objs.size, [s1.heap.objs.size], _, _, H1, rfl, I1.kept (t' := s1.toks) fun b o e => Heap.get?_push_of_some _ e, turn_tuple a _, ⟨_, Heap.get?_push_size _ rfl, rfl, rfl⟩, fun b hb => ?_, q⟩
    have e : b = s1.heap.objs.size := by simpa using hb
    subst e
    exact I1.fpOk (Nat.le_refl _) (I1.hok.fresh (Nat.le_refl _))
def itemsD : Dat → Option (List Dat)
  | .list ds => some ds
  | .tuple ds => some ds
  | _ => none
def Over (K : Fg) (J : It) (x : V) (d : Dat) (ds : List Dat) : Prop := ∀ (i : Nat) (H : Hp) (Av : AvP), RepD K H Av x d → (ds.length ≤ i → J.stop i H) ∧ (∀ di, ds[i]? = some di → J.go i H ∧ ∀ y H', J.yld i H y H' → H' = H ∧ RepD K H Av y di)
theorem over_list {K : Fg} {a : Addr} {ds : List Dat} : Over K (Itl K a) (.ref a) (.list ds) ds := by
  intro i H Av r
  obtain ⟨b, xs, e, hq, rs⟩ := r.l_inv
  cases e
  refine ⟨fun h => ⟨xs, hq.sq, by rw [rs.length]; exact h⟩, fun di hd => ?_⟩
  obtain ⟨v, hv, rv⟩ := rs.get hd
  refine ⟨⟨xs, v, hq.sq, hv⟩, fun y H' hy => ?_⟩
  obtain ⟨e, hy⟩ := hy
  have := hy xs hq.sq
  rw [hv] at this
  cases this
  exact ⟨e, rv⟩
theorem over_tup {K : Fg} {a : Addr} {ds : List Dat} : Over K (Itt K a) (.ref a) (.tuple ds) ds := by
  intro i H Av r
  obtain ⟨b, xs, e, hq, rs⟩ := r.t_inv
  cases e
  refine ⟨fun h => ⟨xs, hq.sq, by rw [rs.length]; exact h⟩, fun di hd => ?_⟩
  obtain ⟨v, hv, rv⟩ := rs.get hd
  refine ⟨⟨xs, v, hq.sq, hv⟩, fun y H' hy => ?_⟩
  obtain ⟨e, hy⟩ := hy
  have := hy xs hq.sq
  rw [hv] at this
  cases this
  exact ⟨e, rv⟩
theorem drop_cons {α : Type} {l : List α} {i : Nat} {a : α} (h : l[i]? = some a) : l.drop i = a :: l.drop (i + 1) := by
  obtain ⟨hl, e⟩ := List.getElem?_eq_some_iff.mp h
  rw [List.drop_eq_getElem_cons hl, e]
def forL (gt : Dat → Option Asg) (gb : Gam → Option Fl) : List Dat → Gam → Option Fl
  | [], Γ => some (.nx Γ)
  | d :: r, Γ => (gt d).bind fun as => (gb (setG Γ as)).bind fun fl => match fl with
    | .nx Γ' => forL gt gb r Γ'
    | .ct Γ' => forL gt gb r Γ'
    | .bk Γ' => some (.nx Γ')
    | .rt v => some (.rt v)
    | .rm v Γ' => some (.rm v Γ')
def sFor (gt : Dat → Option Asg) (gb : Gam → Option Fl) (f : Rho → Option Dat) : Gam → Option Fl := fun Γ => (f (immV Γ)).bind fun d => (itemsD d).bind fun ds => forL gt gb ds Γ
theorem for_turns {K : Fg} {gt : Dat → Option Asg} {gb : Gam → Option Fl} {D : Ends} {H₀ : Hp} {Av : AvP} {pn : Option Addr} {hid : Hid} {x : V} {d : Dat} {ds : List Dat} {J : It} {σ : L2.St} {H1 : Hp} {Γ : Gam} {fl : Fl} (ov : Over K J x d ds)
    (G : GEnv K H₀ Av pn ((x, d) :: hid) H1 σ Γ) (hf : forL gt gb ds Γ = some fl) (q : endF K H₀ Av pn hid D fl) :
    ∃ W : Nat → Nat → L2.St → Hp → Prop, (∃ m, W 0 m σ H1) ∧ ∀ i m σ H, W i m σ H →
      (J.stop i H ∧ D.nx σ H) ∨ (J.go i H ∧ ∃ N : L2.St → Hp → Prop, (∀ σ' H', N σ' H' → ∃ m', m' < m ∧ W (i + 1) m' σ' H') ∧ ∀ x H', J.yld i H x H' → tGF K gt x σ H' fun σ2 H2 => tSF K gb { D with nx := N, ct := N, bk := D.nx } σ2 H2) := by
  refine ⟨fun i m σ H => m = ds.length - i ∧ i ≤ ds.length ∧ ∃ Γ, GEnv K H₀ Av pn ((x, d) :: hid) H σ Γ ∧ forL gt gb (ds.drop i) Γ = some fl, ⟨_, rfl, Nat.zero_le _, Γ, G, by rw [List.drop_zero]; exact hf⟩, ?_⟩
  rintro i m σ H ⟨rfl, hi, Γ, ⟨ad, G⟩, hf⟩
  have rx := G.hid (x, d) List.mem_cons_self
  cases hdi : ds[i]? with
  | none =>
    have hl : ds.length ≤ i := List.getElem?_eq_none_iff.mp hdi
    rw [List.drop_eq_nil_of_le hl] at hf
    cases hf
    exact .inl ⟨(ov i H _ rx).1 hl, q σ H ⟨ad, G.unhide⟩⟩
  | some di =>
    have hlt := get_lt hdi
    rw [drop_cons hdi] at hf
    obtain ⟨as, e1, hf⟩ := bind_some (show (gt di).bind _ = some fl from hf)
    obtain ⟨fl1, e2, hf⟩ := bind_some hf
    obtain ⟨go, yl⟩ := (ov i H _ rx).2 di hdi
    refine .inr ⟨go, fun σ' H' => ∃ Γ', GEnv K H₀ Av pn ((x, d) :: hid) H' σ' Γ' ∧ forL gt gb (ds.drop (i + 1)) Γ' = some fl, fun σ' H' ⟨Γ', G', h'⟩ => ⟨ds.length - (i + 1), by omega, rfl, by omega, Γ', G', h'⟩, fun y H' hy => ?_⟩
    obtain ⟨eH, ry⟩ := yl y H' hy
    subst eH
    refine ⟨AvG Av Γ ad, di, as, ry, e1, fun ws hw => ⟨H₀, Av, pn, (x, d) :: hid, setG Γ as, fl1, ⟨ad, GA.setAll hw (fun _ z => z) G⟩, e2, ?_⟩⟩
    cases fl1 with
    | nx Γ' => exact fun σ2 H2 G2 => ⟨Γ', G2, hf⟩
    | ct Γ' => exact fun σ2 H2 G2 => ⟨Γ', G2, hf⟩
    | bk Γ' => cases hf; exact fun σ2 H2 ⟨ad2, G2⟩ => q σ2 H2 ⟨ad2, G2.unhide⟩
    | rt v => cases hf; exact q
    | rm v Γ' => cases hf; exact fun σ2 v2 H2 ad2 G2 r2 => q σ2 v2 H2 ad2 G2.unhide r2
theorem psf_for {tg iter : Expr} {body : List Stmt} {gt : Dat → Option Asg} {gb : Gam → Option Fl} (hp : PassesOwn (model X.prog X.w) X.A X.env X.xe) (hc : X.calm = true) (hi : PF X iter f) (hg : PG X tg (tGF X.K gt)) (hb : PSFs X body gb)
    (hs : ∀ x, foldedSetIterable iter X.env x = pure x := by intro _; rfl) : PSF X (.For tg iter body [] pos) (sFor gt gb f) := ps_mono (ps_for hp hc (pi_seq hi) hg hb hs) fun D σ H ⟨H₀, Av, pn, hid, Γ, fl, ⟨ad, G⟩, hf, q⟩ => by
  obtain ⟨d, e1, hf⟩ := bind_some hf
  obtain ⟨ds, e2, hf⟩ := bind_some hf
  refine ⟨AvG Av Γ ad, immV Γ, d, G.avG, G.envI, e1, fun x H1 s1 r => ?_⟩
  cases d with
  | list ds' =>
    cases e2
    obtain ⟨a, xs, rfl, hq, rs⟩ := r.l_inv
    exact ⟨a, rfl, .inl ⟨⟨xs, hq.sq⟩, for_turns over_list ⟨ad, (G.grow s1).hide r⟩ hf q⟩⟩
  | tuple ds' =>
    cases e2
    obtain ⟨a, xs, rfl, hq, rs⟩ := r.t_inv
    exact ⟨a, rfl, .inr ⟨⟨xs, hq.sq⟩, for_turns over_tup ⟨ad, (G.grow s1).hide r⟩ hf q⟩⟩
  | _ => cases e2
def rngD (lo : Int) (n : Nat) : List Dat := (List.range n).map fun (i : Nat) => Dat.int (lo + (i : Int))
theorem rngD_get {lo : Int} {n i : Nat} {di : Dat} (h : (rngD lo n)[i]? = some di) : i < n ∧ di = .int (lo + (i : Int)) := by
  unfold rngD at h
  rw [List.getElem?_map] at h
  cases e : (List.range n)[i]? with
  | none => rw [e] at h; cases h
  | some k =>
    rw [e] at h
    cases h
    obtain ⟨hl, e2⟩ := List.getElem?_eq_some_iff.mp e
    rw [List.length_range] at hl
    rw [List.getElem_range] at e2
    subst e2
    exact ⟨hl, rfl⟩
theorem over_range {K : Fg} {lo : Int} {n : Nat} : Over K (Itr lo n) .non .none (rngD lo n) := by
  intro i H Av _
  refine ⟨fun h => ?_, fun di hd => ?_⟩
  · have : (rngD lo n).length = n := by unfold rngD; rw [List.length_map, List.length_range]
    show n ≤ i
    omega
  · obtain ⟨hl, e⟩ := rngD_get hd
    refine ⟨hl, fun y H' hy => ?_⟩
    obtain ⟨e1, e2⟩ := hy
    subst e2
    rw [e]
    exact ⟨e1, .int _⟩
def rng1 : List Dat → Option (List Dat)
  | [.int j] => if -(2 ^ 62) ≤ j ∧ j < 2 ^ 62 then some (rngD 0 j.toNat) else none
  | _ => none
theorem RepDs.one_inv {K : Fg} {H : Hp} {Av : AvP} {vs : List V} {d : Dat} (h : RepDs K H Av vs [d]) : ∃ v, vs = [v] ∧ RepD K H Av v d := by
  cases h with | cons a r => cases r; exact ⟨_, rfl, a⟩
theorem RepDs.two_inv {K : Fg} {H : Hp} {Av : AvP} {vs : List V} {d e : Dat} (h : RepDs K H Av vs [d, e]) : ∃ v u, vs = [v, u] ∧ RepD K H Av v d ∧ RepD K H Av u e := by
  cases h with | cons a r => obtain ⟨u, rfl, b⟩ := r.one_inv; exact ⟨_, u, rfl, a, b⟩
def whileF (ft : Rho → Option Bool) (gb : Gam → Option Fl) : Nat → Gam → Option Fl
  | 0, _ => none
  | n + 1, Γ => (ft (allV Γ)).bind fun c => if c = true then (gb Γ).bind fun fl => match fl with
      | .nx Γ' => whileF ft gb n Γ'
      | .ct Γ' => whileF ft gb n Γ'
      | .bk Γ' => some (.nx Γ')
      | .rt v => some (.rt v)
      | .rm v Γ' => some (.rm v Γ')
    else some (.nx Γ)
def sWhile (fuel : Gam → Nat) (ft : Rho → Option Bool) (gb : Gam → Option Fl) : Gam → Option Fl := fun Γ => whileF ft gb (fuel Γ) Γ
theorem psf_while (fuel : Gam → Nat) {c : Expr} {body : List Stmt} {gb : Gam → Option Fl} (hp : PassesOwn (model X.prog X.w) X.A X.env X.xe) (hc : PFT X c ft) (hb : PSFs X body gb) : PSF X (.While c body [] pos) (sWhile fuel ft gb) := ps_mono (ps_while hp hc hb) fun D σ H ⟨H₀, Av, pn, hid, Γ, fl, G, hf, q⟩ => by
  refine ⟨fun m σ H => ∃ Γ, GEnv X.K H₀ Av pn hid H σ Γ ∧ whileF ft gb m Γ = some fl, ⟨_, Γ, G, hf⟩, ?_⟩
  rintro m σ H ⟨Γ, ⟨ad, G⟩, hf⟩
  cases m with
  | zero => cases hf
  | succ m =>
    obtain ⟨k, e1, hf⟩ := bind_some (show (ft (allV Γ)).bind _ = some fl from hf)
    refine ⟨Av, allV Γ, k, G.avt.same G.same, G.envA, e1, fun H1 s1 => ?_⟩
    cases k with
    | false =>
      rw [if_neg Bool.false_ne_true] at hf ⊢
      cases hf
      exact q σ H1 ⟨ad, G.grow s1⟩
    | true =>
      rw [if_pos rfl] at hf ⊢
      obtain ⟨fl1, e2, hf⟩ := bind_some hf
      refine ⟨fun σ' H' => ∃ Γ', GEnv X.K H₀ Av pn hid H' σ' Γ' ∧ whileF ft gb m Γ' = some fl, fun σ' H' ⟨Γ', G', h'⟩ => ⟨m, Nat.lt_succ_self m, Γ', G', h'⟩, H₀, Av, pn, hid, Γ, fl1, ⟨ad, G.grow s1⟩, e2, ?_⟩
      cases fl1 with
      | nx Γ' => exact fun σ2 H2 G2 => ⟨Γ', G2, hf⟩
      | ct Γ' => exact fun σ2 H2 G2 => ⟨Γ', G2, hf⟩
      | bk Γ' => cases hf; exact fun σ2 H2 G2 => q σ2 H2 G2
      | rt v => cases hf; exact q
      | rm v Γ' => cases hf; exact q
def tFL (K : Fg) (f : Rho → Option (List Dat)) : TE := fun σ H Q => ∃ Av ρ ds, AvT H Av ∧ REnv K H Av σ ρ ∧ f ρ = some ds ∧ ∀ H1 p xs, Same H H1 → H1 p = none → RepDs K H1 Av xs ds → Q (.ref p) (upd H1 p (.lst xs))
def gd {α : Type} (c : Prop) [Decidable c] (o : Option α) : Option α := if c then o else none
theorem gd_some {α : Type} {c : Prop} [Decidable c] {o : Option α} {a : α} (h : gd c o = some a) : c ∧ o = some a := by
  unfold gd at h
  split at h
  · rename_i hc; exact ⟨hc, h⟩
  · cases h
def fSz (fs : Rho → Option (List Dat)) : Rho → Option (List Dat) := fun ρ => (fs ρ).bind fun ds => gd (ds.length ≤ sizeLine) (some ds)
theorem pfl_lst (h : PFA X es fs) : PE X (.List es pos) (tFL X.K (fSz fs)) := pe_mono (pe_lst h) fun σ H Q ⟨Av, ρ, d, hA, hE, hf, q⟩ => by
  obtain ⟨ds, e1, hf⟩ := bind_some hf
  obtain ⟨hz, e2⟩ := gd_some hf
  cases e2
  exact ⟨Av, ρ, d, hA, hE, e1, fun xs H1 s1 r1 => ⟨by rw [r1.length]; exact hz, fun p hp => q H1 p xs s1 hp r1⟩⟩
def sOwn (i : Nat) (f : Rho → Option (List Dat)) : Gam → Option Fl := fun Γ => (f (immV Γ)).map fun ds => .nx (Γ.set i (some (.own ds)))
theorem psf_own (i : Nat) {x : Str} {pos' : Pos} (hN : X.N.Nodup) (h : PE X e (tFL X.K fs)) (hi0 : i ≠ 0 := by decide) (hi : X.N[i]? = some x := by rfl) (hx : Loc X.env.scope x := by first | exact .inl rfl | exact .inr rfl) (hs : swapsWith e (some (.Name x pos')) pos.line X.env = pure false := by rfl) (hf : X.fn x = true ∨ X.env.scope.names.lookup x = some .local := by first | exact .inl rfl | exact .inr rfl) :
    PSF X (.Assign [.Name x pos'] e pos) (sOwn i fs) := ps_mono (ps_set hN hi hx h hs hf) fun D σ H ⟨H₀, Av, pn, hid, Γ, fl, ⟨ad, G⟩, hf, q⟩ => by
  obtain ⟨ds, e1, hf⟩ := map_some' hf
  subst hf
  exact ⟨AvG Av Γ ad, immV Γ, ds, G.avG, G.envI, e1, fun H1 p xs s hp r => q _ _ ⟨_, (G.grow s).setOwn i hi0 hp r⟩⟩
def sApp (i : Nat) (f : Rho → Option Dat) : Gam → Option Fl := fun Γ => match Γ[i]? with
  | some (some (.own ds)) => (f (immV Γ)).bind fun d => gd (ds.length < sizeLine) (some (.nx (Γ.set i (some (.own (ds ++ [d]))))))
  | _ => none
theorem psf_append (i : Nat) {x : Str} {p1 p2 p3 : Pos} (h : PF X e f) (hN : X.N[i]? = some x := by rfl) (hv : Vis X.env.scope x := by first | exact Or.inl rfl | exact Or.inr (Or.inl rfl) | exact Or.inr (Or.inr rfl)) (hd : (x == ("__debug__" : Str)) = false := by decide)
    (hcd : (x == ("__classdict__" : Str)) = false := by decide) (hbase : attributeBase (.Name x p1) "append" X.env (eval (.Name x p1) X.env) = eval (.Name x p1) X.env := by rfl)
    (hfew : ((backTo p3 (starEach [e] X.env)).all (fun x => !x.1) && (backToKw p3 (keywordEach [] X.env)).all (fun x => x.1.isSome) && decide (([e] : List Expr).length + ([] : List Keyword).length + (if ([] : List Keyword).isEmpty then 0 else 1) < 30)) = true := by rfl)
    (hline : (p2.endLine == p3.line) = true := by rfl) (hs1 : starEach [e] X.env = (false, eval e X.env) :: starEach [] X.env := by rfl) (hplain : (backTo p3 (starEach [] X.env)).any (·.1) = false := by rfl)
    (hs : swapsWith (.Call (.Attribute (.Name x p1) "append" p2) [e] [] p3) none pos.line X.env = pure false := by rfl) : PSF X (.Expr (.Call (.Attribute (.Name x p1) "append" p2) [e] [] p3) pos) (sApp i f) :=
  ps_mono (ps_expr (pe_bm PySem.F.plainAttrs_list PySem.F.slot_list_append PySem.F.type_list_append mt_append (pe_var hN hv hd hcd) (pa_cons h pa_nil hs1) hbase hfew hline hs1 hplain) hs) fun D σ H ⟨H₀, Av, pn, hid, Γ, fl, ⟨ad, G⟩, hf, q⟩ => by
  unfold sApp at hf
  split at hf
  · rename_i ds hi
    obtain ⟨d, e1, hf⟩ := bind_some hf
    obtain ⟨hz, hf⟩ := gd_some hf
    cases hf
    obtain ⟨xs, g1, g2, g3, g4⟩ := G.own i ds hi
    refine ⟨_, g1, .inl ⟨rfl, xs, .of g2⟩, AvG Av Γ ad, immV Γ, d, G.avG, G.envI, e1, fun v H1 s1 r => ?_⟩
    have G1 := G.grow s1
    obtain ⟨xs1, k1, k2, k3, k4⟩ := G1.own i ds hi
    exact ⟨_, xs1, v, rfl, rfl, k2, by rw [k3.length]; exact hz, q _ _ ⟨ad, G1.change hi (k3.append (.cons r .nil))⟩⟩
  · cases hf
def startG (N : List Str) (ds : List Dat) : Gam := ds.map (fun d => some (.imm d)) ++ List.replicate (N.length - ds.length) none
def runF (N : List Str) (g : Gam → Option Fl) : List Dat → Option Dat := fun ds => match g (startG N ds) with
  | some (.rt d) => some d
  | some (.nx _) => some .none
  | _ => none
theorem ga_start {K : Fg} {H : Hp} {Av : AvP} {N : List Str} {vs : List V} {ds : List Dat} (hA : AvT H Av) (r : RepDs K H Av vs ds) (hl : ds.length ≤ N.length) : GEnv K H Av none [] H (start N vs) (startG N ds) := by
  have nomt : ∀ (i : Nat) (s : Slot), (startG N ds)[i]? = some (some s) → s.mt = false := fun i s h => by
    unfold startG at h
    by_cases hi : i < ds.length
    · rw [List.getElem?_append_left (by rw [List.length_map]; exact hi), List.getElem?_map, List.getElem?_eq_getElem hi] at h
      cases h; rfl
    · rw [List.getElem?_append_right (by rw [List.length_map]; omega), List.getElem?_replicate] at h
      split at h <;> cases h
  refine ⟨fun _ => 0, Same.refl H, hA, ?_, fun i d h => ?_, fun i es h => absurd (nomt i _ h) (by simp [Slot.mt]), fun i j s _ h _ m => absurd (nomt i s h) (by rw [m]; decide), fun p hp => absurd hp (by simp), fun a es e => (by cases e), fun i O es h => absurd (nomt i _ h) (by simp [Slot.mt])⟩
  · unfold L2.start startG
    rw [List.length_append, List.length_append, List.length_map, List.length_map, List.length_replicate, List.length_replicate, r.length]
  · unfold startG at h
    by_cases hi : i < ds.length
    · rw [List.getElem?_append_left (by rw [List.length_map]; exact hi), List.getElem?_map, List.getElem?_eq_getElem hi] at h
      cases h
      obtain ⟨v, hv, rv⟩ := r.get (List.getElem?_eq_getElem hi)
      refine ⟨v, ?_, rv.weak ?_⟩
      · unfold L2.start
        rw [List.getElem?_append_left (by rw [List.length_map, r.length]; exact hi), List.getElem?_map, hv]
        rfl
      · rintro a (z | ⟨j, s, e, m, _⟩)
        · exact z
        · exact absurd (nomt j s e) (by rw [m]; decide)
    · rw [List.getElem?_append_right (by rw [List.length_map]; omega), List.getElem?_replicate] at h
      split at h <;> cases h
theorem dn_of {P : Program} {w : World} {K : Fg} {mg : Str → Option Value} {base : Heap} {x qual : Str} {st : Stmt} {fa : Addr} {fd : FuncData} {N ps : List Str} {k n : Nat} {g : Gam → Option Fl} {F : List Dat → Option Dat}
    (U : Fun K x qual st fa fd) (hm : mg x = some (.ref fa)) (hB : Binds K fd ps []) (S : FnScope N ps (defScope st)) (hn : ps.length = n)
    (hbody : ∀ (cdv : Value) (A : Around) (outer : List Env) (s : Shared) (H : Hp) (E : XK), Room k (A.deeper (envOfC qual (defScope st) s.heap.objs.size fa cdv)) → PSFs (cxOf CX0 P w K mg base N qual (defScope st) fa cdv A outer s H E).nox (defBody st) g)
    (hF : ∀ ds d, ds.length = n → F ds = some d → runF N g ds = some d) : Dn P w K mg base (k + 1) x ps n F := by
  have hpl : ps.length ≤ N.length := by have := congrArg List.length S.pre; rw [List.length_take] at this; omega
  refine ⟨fa, fd, U.ok S (fun vs H Q E h => ?_) (fun cdv A outer s H vs Q E hr h => ?_), hm, U.kp, hB⟩
  · obtain ⟨Av, ds, d, _, r, hl, _⟩ := h
    rw [r.length, hl, hn]
  · obtain ⟨Av, ds, d, hA, r, hl, hd, q⟩ := h
    have hd' := hF ds d hl hd
    unfold runF at hd'
    refine ⟨_, hbody cdv A outer s H E hr, ?_⟩
    cases hg : g (startG N ds) with
    | none => rw [hg] at hd'; cases hd'
    | some fl =>
      refine ⟨H, Av, none, [], startG N ds, fl, ga_start hA r (by omega), hg, ?_⟩
      rw [hg] at hd'
      cases fl with
      | nx Γ => cases hd'; exact fun σ' H' ⟨ad, G⟩ => q _ H' G.same .non
      | rt d' => cases hd'; exact fun v H' s r => q v H' s r
      | bk Γ => cases hd'
      | ct Γ => cases hd'
      | rm d' Γ => cases hd'
end
end L3
namespace L3
open PySem PySem.Spec PyProof.Rows L2
open PySem.W (Dat kqdOk kqdP kqdPs kqd_lay kqd_eqv)
noncomputable section
def decD (d e : Dat) : Bool := @decide (d = e) (Classical.propDecidable _)
theorem decD_iff {d e : Dat} : decD d e = true ↔ d = e := @decide_eq_true_iff _ (Classical.propDecidable _)
theorem decD_t {d e : Dat} (h : d = e) : decD d e = true := decD_iff.mpr h
theorem decD_f {d e : Dat} (h : d ≠ e) : decD d e = false := Bool.eq_false_iff.mpr fun z => h (decD_iff.mp z)
variable {X : Cx} {a b c e : Expr} {es : List Expr} {pos : Pos} {fa fb fc f : Rho → Option Dat} {fs : Rho → Option (List Dat)} {ft : Rho → Option Bool}
def iD (C : Int → Int → Prop) (g : Int → Int → Dat) : Dat → Dat → Option Dat := open Classical in fun x y => match x, y with
  | .int i, .int j => if C i j then some (g i j) else none
  | _, _ => none
theorem iD_ok {C : Int → Int → Prop} {g : Int → Int → Dat} {i j : Int} (h : C i j) : iD C g (.int i) (.int j) = some (g i j) := by
  unfold iD
  exact if_pos h
theorem iD_inv {C : Int → Int → Prop} {g : Int → Int → Dat} {x y d : Dat} (h : iD C g x y = some d) : ∃ i j, x = .int i ∧ y = .int j ∧ C i j ∧ d = g i j := by
  unfold iD at h
  split at h
  · split at h
    · rename_i i j hc
      cases h
      exact ⟨i, j, rfl, rfl, hc, rfl⟩
    · cases h
  · cases h
theorem opD_i {K : Fg} {C : Int → Int → Prop} {g : Int → Int → Int} : OpD K (rI C fun i j => .int (g i j)) (iD C fun i j => .int (g i j)) := by
  intro H Av x y dx dy d Q hA rx ry h q
  obtain ⟨i, j, rfl, rfl, hc, rfl⟩ := iD_inv h
  exact ⟨i, j, rx.i_inv, ry.i_inv, hc, q _ H (Same.refl H) (.int _)⟩
theorem opD_b {K : Fg} {g : Int → Int → Bool} : OpD K (rI0 fun i j => .bl (g i j)) (iD (fun _ _ => True) fun i j => .bool (g i j)) := by
  intro H Av x y dx dy d Q hA rx ry h q
  obtain ⟨i, j, rfl, rfl, hc, rfl⟩ := iD_inv h
  exact ⟨i, j, rx.i_inv, ry.i_inv, q _ H (Same.refl H) (.bl _)⟩
def addD : Dat → Dat → Option Dat
  | .int i, .int j => some (.int (i + j))
  | .str x, .str y => if x.length + y.length ≤ sizeLine then some (.str (x ++ y)) else none
  | _, _ => none
theorem pf_add (ha : PF X a fa) (hb : PF X b fb) : PF X (.BinOp a .Add b pos) (f2 addD fa fb) := pf_bin (op_add.or op_add_str) (by
  intro H Av x y dx dy d Q hA rx ry h q
  unfold addD at h
  split at h
  · cases h
    exact .inl ⟨_, _, rx.i_inv, ry.i_inv, q _ H (Same.refl H) (.int _)⟩
  · split at h
    · rename_i hz
      cases h
      exact .inr ⟨_, _, rx.s_inv, ry.s_inv, hz, q _ H (Same.refl H) (.str _)⟩
    · cases h
  · cases h) ha hb
def CAny (_ _ : Int) : Prop := True
def CBig (i j : Int) : Prop := j ≠ 0 ∧ j.natAbs.log2 < 9000
def CNz (_ j : Int) : Prop := j ≠ 0
theorem op_sub' : OpR X (binaryOp .Sub) (rI CAny fun i j => .int (i - j)) := opI fun _ _ _ _ _ _ _ _ q => sub_int q
theorem op_mul' : OpR X (binaryOp .Mult) (rI IntMulOk fun i j => .int (i * j)) := opI fun _ _ _ _ _ _ _ hc q => mul_int q hc
theorem op_fdiv' : OpR X (binaryOp .FloorDiv) (rI CBig fun i j => .int (i.fdiv j)) := opI fun _ _ _ _ _ _ _ hc q => floordiv_int hc.1 q (.inl (PyProof.noPylong_of_log2 hc.2))
theorem op_mod'' : OpR X (binaryOp .Mod) (rI CNz fun i j => .int (i.fmod j)) := opI fun _ _ _ _ _ _ _ hc q => mod_int' hc q
abbrev subD : Dat → Dat → Option Dat := iD CAny fun i j => .int (i - j)
abbrev mulD : Dat → Dat → Option Dat := iD IntMulOk fun i j => .int (i * j)
abbrev fdivD : Dat → Dat → Option Dat := iD CBig fun i j => .int (i.fdiv j)
abbrev modD : Dat → Dat → Option Dat := iD CNz fun i j => .int (i.fmod j)
abbrev powD : Dat → Dat → Option Dat := iD CPow fun i j => .int (i ^ j.toNat)
theorem pf_sub (ha : PF X a fa) (hb : PF X b fb) : PF X (.BinOp a .Sub b pos) (f2 subD fa fb) := pf_bin op_sub' opD_i ha hb
theorem pf_mul (ha : PF X a fa) (hb : PF X b fb) : PF X (.BinOp a .Mult b pos) (f2 mulD fa fb) := pf_bin op_mul' opD_i ha hb
theorem pf_fdiv (ha : PF X a fa) (hb : PF X b fb) : PF X (.BinOp a .FloorDiv b pos) (f2 fdivD fa fb) := pf_bin op_fdiv' opD_i ha hb
theorem pf_mod (ha : PF X a fa) (hb : PF X b fb) : PF X (.BinOp a .Mod b pos) (f2 modD fa fb) := pf_bin op_mod'' opD_i ha hb
theorem pf_pow (ha : PF X a fa) (hb : PF X b fb) : PF X (.BinOp a .Pow b pos) (f2 powD fa fb) := pf_bin op_pow opD_i ha hb
abbrev ltD : Dat → Dat → Option Dat := iD (fun _ _ => True) fun i j => .bool (decide (i < j))
abbrev gtD : Dat → Dat → Option Dat := iD (fun _ _ => True) fun i j => .bool (decide (j < i))
abbrev geD : Dat → Dat → Option Dat := iD (fun _ _ => True) fun i j => .bool (decide (j ≤ i))
theorem pf_lt (ha : PF X a fa) (hb : PF X b fb) : PF X (.Compare a [.Lt] [b] pos) (f2 ltD fa fb) := pf_cmp op_lt opD_b ha hb (nomark _)
theorem pf_gt (ha : PF X a fa) (hb : PF X b fb) : PF X (.Compare a [.Gt] [b] pos) (f2 gtD fa fb) := pf_cmp op_gt opD_b ha hb (nomark _)
theorem pft_lt (ha : PF X a fa) (hb : PF X b fb) : PFT X (.Compare a [.Lt] [b] pos) (fTest (f2 ltD fa fb)) := pft_cmp op_lt opD_b ha hb (nomark _)
theorem pft_ge (ha : PF X a fa) (hb : PF X b fb) : PFT X (.Compare a [.GtE] [b] pos) (fTest (f2 geD fa fb)) := pft_cmp op_ge opD_b ha hb (nomark _)
def negD : Dat → Option Dat
  | .int i => some (.int (-i))
  | _ => none
theorem pf_neg (ha : PF X a fa) : PF X (.UnaryOp .USub a pos) (f1 negD fa) := pf_un un_neg (by
  intro H Av x dx d Q hA rx h q
  unfold negD at h
  split at h
  · cases h; exact ⟨_, rx.i_inv, q _ H (Same.refl H) (.int _)⟩
  · cases h) ha
mutual
theorem RepD.reads {pins : List (Addr × Obj)} {σ : L2.St} {H : Hp} {s : Shared} {Av : AvP} (I : Inv X pins σ H s) : ∀ {v : V} {d : Dat} (n : Nat), RepD X.K H Av v d → kqdOk n d = true → ∀ u, RelV v u → ∃ as, Reads s.heap u (kqdP d) as
  | _, _, n, .non, _, u, r => by cases (show u = Value.none from r); rw [kqdP]; exact ⟨_, .none⟩
  | _, _, n, .bl b, _, u, r => by cases (show u = Value.bool b from r); rw [kqdP]; exact ⟨_, .bool b⟩
  | _, _, n, .int i, _, u, r => by obtain ⟨t, q⟩ := (show ∃ t, u = Value.int i t from r); subst q; rw [kqdP]; exact ⟨_, .int i t⟩
  | _, _, n, .str x, _, u, r => by obtain ⟨t, q⟩ := (show ∃ t, u = Value.str x t from r); subst q; rw [kqdP]; exact ⟨_, .str x t⟩
  | _, _, 0, .tup _ _, hk, _, _ => by simp [kqdOk] at hk
  | _, _, 0, .lst _ _, hk, _, _ => by simp [kqdOk] at hk
  | _, _, n + 1, .tup (a := a) hq rs, hk, u, r => by
    cases (show u = Value.ref a from r)
    obtain ⟨its, rv, ⟨o, h1, h2, m, h3⟩, _⟩ := I.tuple hq.sq
    obtain ⟨as, q⟩ := RepDs.reads I n rs (by simpa [kqdOk] using hk) its rv
    rw [kqdP]
    exact ⟨as, .tuple h1 h2 h3 (by simpa using q)⟩
  | _, _, n + 1, .lst (a := a) hq rs, hk, u, r => by
    cases (show u = Value.ref a from r)
    obtain ⟨its, rv, ⟨o, m, h1, h2, _, h3⟩, _⟩ := I.list hq.sq
    obtain ⟨as, q⟩ := RepDs.reads I n rs (by simpa [kqdOk] using hk) its rv
    rw [kqdP]
    exact ⟨_, .list h1 h2 h3 (by simpa using q)⟩
theorem RepDs.reads {pins : List (Addr × Obj)} {σ : L2.St} {H : Hp} {s : Shared} {Av : AvP} (I : Inv X pins σ H s) : ∀ {vs : List V} {ds : List Dat} (n : Nat), RepDs X.K H Av vs ds → (∀ d ∈ ds, kqdOk n d = true) → ∀ us, Vals vs us → ∃ as, ReadsAll s.heap us (kqdPs ds) as
  | _, _, n, .nil, _, us, r => by cases r; rw [kqdPs]; exact ⟨_, .nil⟩
  | _, _, n, .cons h t, hk, us, r => by
    cases r with
    | cons r1 r2 =>
      obtain ⟨as, q⟩ := RepD.reads I n h (hk _ (.head _)) _ r1
      obtain ⟨bs, p⟩ := RepDs.reads I n t (fun d hm => hk d (.tail _ hm)) _ r2
      rw [kqdPs]
      exact ⟨_, .cons q p⟩
end
theorem eqv_dec (d e : Dat) (h1 : kqdOk 9 d = true) (h2 : kqdOk 9 e = true) : PyData.eqv (kqdP d) (kqdP e) = (decD d e) := by
  have q := kqd_eqv 9 d e 9 h1 h2
  by_cases hq : d = e
  · rw [decD_t hq]; exact q.mpr hq
  · rw [decD_f hq]; exact Bool.eq_false_iff.mpr fun x => hq (q.mp x)
theorem shaped_of (d : Dat) (h : kqdOk 9 d = true) : SeqAt.shaped (kqdP d) = true := by
  have l := kqd_lay 9 d h
  unfold SeqAt.shaped; rw [l.1, Bool.true_and]; exact decide_eq_true (Nat.le_trans l.2 (by decide))
def rEqD (K : Fg) : R2 := fun x y H Q => ∃ Av d e, RepD K H Av x d ∧ RepD K H Av y e ∧ kqdOk 9 d = true ∧ kqdOk 9 e = true ∧ Q (.bl (decD d e)) H
def rNeD (K : Fg) : R2 := fun x y H Q => ∃ Av d e, RepD K H Av x d ∧ RepD K H Av y e ∧ kqdOk 9 d = true ∧ kqdOk 9 e = true ∧ Q (.bl (!(decD d e))) H
theorem op_eqD (hu : X.A.units + 64 < cLine) : OpR X (compareOp .Eq) (rEqD X.K) := by
  intro pins s σ H x y v u Q I rx ry h
  obtain ⟨Av, d, e, r1, r2, k1, k2, q⟩ := h
  obtain ⟨as, ra⟩ := r1.reads I 9 k1 v rx
  obtain ⟨bs, rb⟩ := r2.reads I 9 k2 u ry
  exact eq_dataH ra rb (shaped_of d k1) (shaped_of e k2) hu ⟨.bl _, H, I, by rw [eqv_dec d e k1 k2]; rfl, q⟩
theorem op_neD (hu : X.A.units + 64 < cLine) : OpR X (compareOp .NotEq) (rNeD X.K) := by
  intro pins s σ H x y v u Q I rx ry h
  obtain ⟨Av, d, e, r1, r2, k1, k2, q⟩ := h
  obtain ⟨as, ra⟩ := r1.reads I 9 k1 v rx
  obtain ⟨bs, rb⟩ := r2.reads I 9 k2 u ry
  exact ne_dataH ra rb (shaped_of d k1) (shaped_of e k2) hu ⟨.bl _, H, I, by rw [eqv_dec d e k1 k2]; rfl, q⟩
def eqB : Dat → Dat → Option Bool := open Classical in fun x y => match x, y with
  | .bool a, .bool b => some (a == b)
  | .str a, .str b => some (decide (a = b))
  | d, e => if kqdOk 9 d = true ∧ kqdOk 9 e = true then some (decD d e) else none
def eqD : Dat → Dat → Option Dat := fun x y => (eqB x y).map .bool
def neD : Dat → Dat → Option Dat := fun x y => (eqB x y).map fun k => .bool (!k)
theorem eqB_cases {x y : Dat} {k : Bool} (h : eqB x y = some k) : (∃ a b, x = .bool a ∧ y = .bool b ∧ k = (a == b)) ∨ (∃ a b, x = .str a ∧ y = .str b ∧ k = decide (a = b)) ∨ (kqdOk 9 x = true ∧ kqdOk 9 y = true ∧ k = (decD x y)) := by
  unfold eqB at h
  split at h
  · cases h; exact .inl ⟨_, _, rfl, rfl, rfl⟩
  · cases h; exact .inr (.inl ⟨_, _, rfl, rfl, by congr⟩)
  · split at h
    · rename_i hk; cases h; exact .inr (.inr ⟨hk.1, hk.2, rfl⟩)
    · cases h
theorem opD_eq {K : Fg} : OpD K (fun x y H Q => rEq x y H Q ∨ rEqD K x y H Q) eqD := by
  intro H Av x y dx dy d Q hA rx ry h q
  obtain ⟨k, e1, rfl⟩ := map_some' h
  rcases eqB_cases e1 with ⟨a, b, rfl, rfl, rfl⟩ | ⟨a, b, rfl, rfl, rfl⟩ | ⟨k1, k2, rfl⟩
  · rw [rx.b_inv, ry.b_inv]
    exact .inl ⟨rfl, by rw [dec_bl]; exact q _ H (Same.refl H) (.bl _)⟩
  · rw [rx.s_inv, ry.s_inv]
    exact .inl ⟨rfl, by
      have : decide (V.str a = V.str b) = decide (a = b) := by simp
      rw [this]; exact q _ H (Same.refl H) (.bl _)⟩
  · exact .inr ⟨Av, dx, dy, rx, ry, k1, k2, q _ H (Same.refl H) (.bl _)⟩
theorem opD_ne {K : Fg} : OpD K (fun x y H Q => rNe x y H Q ∨ rNeD K x y H Q) neD := by
  intro H Av x y dx dy d Q hA rx ry h q
  obtain ⟨k, e1, rfl⟩ := map_some' h
  rcases eqB_cases e1 with ⟨a, b, rfl, rfl, rfl⟩ | ⟨a, b, rfl, rfl, rfl⟩ | ⟨k1, k2, rfl⟩
  · rw [rx.b_inv, ry.b_inv]
    exact .inl ⟨rfl, by rw [dec_bl]; exact q _ H (Same.refl H) (.bl _)⟩
  · rw [rx.s_inv, ry.s_inv]
    exact .inl ⟨rfl, by
      have : decide (V.str a = V.str b) = decide (a = b) := by simp
      rw [this]; exact q _ H (Same.refl H) (.bl _)⟩
  · exact .inr ⟨Av, dx, dy, rx, ry, k1, k2, q _ H (Same.refl H) (.bl _)⟩
theorem pf_eq {k : Nat} (hr : Room k X.A) (ha : PF X a fa) (hb : PF X b fb) : PF X (.Compare a [.Eq] [b] pos) (f2 eqD fa fb) := pf_cmp (op_eq.or (op_eqD hr.units)) opD_eq ha hb (nomark _)
theorem pft_eq {k : Nat} (hr : Room k X.A) (ha : PF X a fa) (hb : PF X b fb) : PFT X (.Compare a [.Eq] [b] pos) (fTest (f2 eqD fa fb)) := pft_cmp (op_eq.or (op_eqD hr.units)) opD_eq ha hb (nomark _)
theorem pft_ne {k : Nat} (hr : Room k X.A) (ha : PF X a fa) (hb : PF X b fb) : PFT X (.Compare a [.NotEq] [b] pos) (fTest (f2 neD fa fb)) := pft_cmp (op_ne.or (op_neD hr.units)) opD_ne ha hb (nomark _)
def absD : List Dat → Option Dat
  | [.int i] => some (.int (if i < 0 then -i else i))
  | _ => none
theorem callD_abs {K : Fg} : CallD K (fun xs H Q => ∃ i, xs = [.int i] ∧ Q (.int (if i < 0 then -i else i)) H) absD := by
  intro H Av xs ds d Q hA r h q
  unfold absD at h
  split at h
  · cases h
    obtain ⟨v, rfl, rv⟩ := r.one_inv
    rw [rv.i_inv]
    exact ⟨_, rfl, q _ H (Same.refl H) (.int _)⟩
  · cases h
def lenD : List Dat → Option Dat
  | [.str z] => if z.length ≤ sizeLine then some (.int z.length) else none
  | [.list ds] => some (.int ds.length)
  | [.tuple ds] => some (.int ds.length)
  | _ => none
theorem callD_len {K : Fg} : CallD K (fun xs H Q => ∃ x n, xs = [x] ∧ LenV K x H n ∧ Q (.int n) H) lenD := by
  intro H Av xs ds d Q hA r h q
  unfold lenD at h
  split at h
  · split at h
    · rename_i hz
      cases h
      obtain ⟨v, rfl, rv⟩ := r.one_inv
      rw [rv.s_inv]
      exact ⟨_, _, rfl, ⟨hz, rfl⟩, q _ H (Same.refl H) (.int _)⟩
    · cases h
  · cases h
    obtain ⟨v, rfl, rv⟩ := r.one_inv
    obtain ⟨a, ys, rfl, hq, rs⟩ := rv.l_inv
    exact ⟨_, _, rfl, .inl ⟨ys, hq.sq, rfl⟩, by rw [rs.length]; exact q _ H (Same.refl H) (.int _)⟩
  · cases h
    obtain ⟨v, rfl, rv⟩ := r.one_inv
    obtain ⟨a, ys, rfl, hq, rs⟩ := rv.t_inv
    exact ⟨_, _, rfl, .inr ⟨ys, hq.sq, rfl⟩, by rw [rs.length]; exact q _ H (Same.refl H) (.int _)⟩
  · cases h
theorem pf_abs {p : Pos} (hm : X.mg "abs" = none) (ha : PFA X (e :: es) fs) (hg : Gl X "abs" := by rfl) (he : starEach (e :: es) X.env = (false, eval e X.env) :: starEach es X.env := by rfl) (hpl : (backTo pos (starEach es X.env)).any (·.1) = false := by rfl) : PF X (.Call (.Name "abs" p) (e :: es) [] pos) (fCall absD fs) :=
  pf_callB call_abs callD_abs hm ha hg (by decide +kernel) (by decide) (by decide) he hpl
theorem pf_len {p : Pos} (hm : X.mg "len" = none) (ha : PFA X (e :: es) fs) (hg : Gl X "len" := by rfl) (he : starEach (e :: es) X.env = (false, eval e X.env) :: starEach es X.env := by rfl) (hpl : (backTo pos (starEach es X.env)).any (·.1) = false := by rfl) : PF X (.Call (.Name "len" p) (e :: es) [] pos) (fCall lenD fs) :=
  pf_callB call_len callD_len hm ha hg (by decide +kernel) (by decide) (by decide) he hpl
def tyD : Dat → Option String
  | .none => some "NoneType" | .bool _ => some "bool" | .int _ => some "int" | .str _ => some "str" | .tuple _ => some "tuple" | .list _ => some "list"
  | .bytes _ => none
theorem kit_any (K : Fg) (t T : String) (ht : t ∈ ["NoneType", "bool", "int", "str", "tuple", "list"]) (hT : T ∈ ["bool", "int", "str", "tuple", "list"]) : PySem.W.kitOne K (.type t) (.type T) = some (decide (t = T) || (decide (t = "bool") && decide (T = "int"))) := by
  simp only [List.mem_cons, List.not_mem_nil, or_false] at ht hT
  rcases ht with rfl | rfl | rfl | rfl | rfl | rfl <;> rcases hT with rfl | rfl | rfl | rfl | rfl <;> rfl
def isD (T : String) : Dat → Option Dat := fun d => (tyD d).bind fun t => if T ∈ ["bool", "int", "str", "tuple", "list"] then some (.bool (decide (t = T) || (decide (t = "bool") && decide (T = "int")))) else none
theorem call_isinst (T : String) : CallR X (.builtin "isinstance") (fun xs H Q => ∃ Av x d dd, xs = [x, .ty T] ∧ RepD X.K H Av x d ∧ isD T d = some (.bool dd) ∧ Q (.bl dd) H) := by
  intro pins s σ H xs us Q I r h
  obtain ⟨Av, x, d, dd, rfl, rd, hi, q⟩ := h
  obtain ⟨u, t, rfl, ru, rt⟩ := vals2 r
  cases (show t = Value.type T from rt)
  obtain ⟨ty, e1, hi⟩ := bind_some (show (tyD d).bind _ = some (Dat.bool dd) from hi)
  split at hi
  · rename_i hT
    have hi' := (Option.some.inj hi).symm
    injection hi' with hi''
    have fin : ∀ tk, EP X pins σ Q (.bool dd) { s with toks := tk } := fun tk => ⟨.bl dd, H, I.tok tk, rfl, q⟩
    cases rd with
    | non => cases e1; cases (show u = Value.none from ru); exact PySem.W.kia_one PySem.W.kitx_none I.kIn True.intro (by rw [kit_any _ _ _ (by simp) hT, hi'']) (fun z => nomatch z) fin
    | bl y => cases e1; cases (show u = Value.bool y from ru); exact PySem.W.kia_one PySem.W.kitx_bool I.kIn True.intro (by rw [kit_any _ _ _ (by simp) hT, hi'']) (fun z => nomatch z) fin
    | int i => cases e1; obtain ⟨t, z⟩ := (show ∃ t, u = Value.int i t from ru); cases z; exact PySem.W.kia_one PySem.W.kitx_int I.kIn True.intro (by rw [kit_any _ _ _ (by simp) hT, hi'']) (fun z => nomatch z) fin
    | str y => cases e1; obtain ⟨t, z⟩ := (show ∃ t, u = Value.str y t from ru); cases z; exact PySem.W.kia_one PySem.W.kitx_str I.kIn True.intro (by rw [kit_any _ _ _ (by simp) hT, hi'']) (fun z => nomatch z) fin
    | @lst a xs ds hq rs =>
      cases e1
      cases (show u = Value.ref a from ru)
      obtain ⟨its, _, ⟨o, m, h1, h2, _⟩, _⟩ := I.list hq.sq
      exact PySem.W.kia_one PySem.W.kitx_list I.kIn ⟨o, h1, h2⟩ (by rw [kit_any _ _ _ (by simp) hT, hi'']) (fun z => nomatch z) fin
    | @tup a xs ds hq rs =>
      cases e1
      cases (show u = Value.ref a from ru)
      obtain ⟨its, _, ⟨o, h1, h2, _⟩, _⟩ := I.tuple hq.sq
      exact PySem.W.kia_one PySem.W.kitx_tuple I.kIn ⟨o, h1, h2⟩ (by rw [kit_any _ _ _ (by simp) hT, hi'']) (fun z => nomatch z) fin
  · cases hi
theorem isD_bool {T : String} {d r : Dat} (h : isD T d = some r) : ∃ k, r = .bool k := by
  obtain ⟨t, e1, h⟩ := bind_some (show (tyD d).bind _ = some r from h)
  split at h
  · cases h; exact ⟨_, rfl⟩
  · cases h
theorem pf_isinst {p p2 : Pos} (T : String) {TS : Str} (hm : X.mg "isinstance" = none) (hm2 : X.mg TS = none) (ha : PF X a fa) (hv : bootBuiltins TS = some (.type T) := by decide +kernel) (hg : Gl X "isinstance" := by rfl) (hg2 : Gl X TS := by rfl) (hn : TS ≠ "__name__" := by decide) (hdb : (TS == ("__debug__" : Str)) = false := by decide)
    (he : starEach [a, .Name TS p2] X.env = (false, eval a X.env) :: starEach [.Name TS p2] X.env := by rfl) (he2 : starEach [.Name TS p2] X.env = (false, eval (.Name TS p2) X.env) :: starEach [] X.env := by rfl) (hpl : (backTo pos (starEach [.Name TS p2] X.env)).any (·.1) = false := by rfl) :
    PF X (.Call (.Name "isinstance" p) [a, .Name TS p2] [] pos) (f1 (isD T) fa) :=
  pe_mono (pe_callB (call_isinst T) hg hm (by decide +kernel) (pa_cons ha (pa_cons (pe_bltn (v := .ty T) hg2 hm2 hv rfl hn hdb) pa_nil he2) he) (by decide) (by decide) he hpl) fun σ H Q ⟨Av, ρ, d, hA, hE, hf, q⟩ => by
    obtain ⟨dx, e1, hf⟩ := bind_some hf
    obtain ⟨k, rfl⟩ := isD_bool hf
    exact ⟨Av, ρ, dx, hA, hE, e1, fun x H1 s1 r1 => ⟨Av, x, dx, k, rfl, r1, hf, q _ H1 s1 (.bl k)⟩⟩
def ixD : Dat → Dat → Option Dat := fun x y => match x, y with
  | .list ds, .int i => atI ds i
  | .tuple ds, .int i => atI ds i
  | _, _ => none
theorem RepDs.atI {K : Fg} {H : Hp} {Av : AvP} {vs : List V} {ds : List Dat} {i : Int} {d : Dat} (r : RepDs K H Av vs ds) (h : L2.atI ds i = some d) : ∃ v, L2.atI vs i = some v ∧ RepD K H Av v d := by
  unfold L2.atI at h ⊢
  rw [r.length]
  obtain ⟨j, e1, h⟩ := bind_some h
  obtain ⟨v, hv, rv⟩ := r.get h
  exact ⟨v, by rw [e1]; exact hv, rv⟩
theorem pf_ix (ha : PF X a fa) (hb : PF X b fb) (hs : PlainIx b := by exact fun _ _ => rfl) : PF X (.Subscript a b pos) (f2 ixD fa fb) := pe_mono (pe_ix (ix_list.or ix_tup) ha hb hs) (tF_op (by
  intro H Av x y dx dy d Q hA rx ry h q
  unfold ixD at h
  split at h
  · obtain ⟨p, xs, rfl, hq, rs⟩ := rx.l_inv
    obtain ⟨v, hv, rv⟩ := rs.atI h
    exact .inl ⟨p, xs, _, v, rfl, ry.i_inv, hq.sq, hv, q v H (Same.refl H) rv⟩
  · obtain ⟨p, xs, rfl, hq, rs⟩ := rx.t_inv
    obtain ⟨v, hv, rv⟩ := rs.atI h
    exact .inr ⟨p, xs, _, v, rfl, ry.i_inv, hq.sq, hv, q v H (Same.refl H) rv⟩
  · cases h))
def cutD (ds : List Dat) (lo hi : Option Int) : List Dat := (ds.drop (HT.sIx ds.length 0 lo)).take (HT.sIx ds.length ds.length hi - HT.sIx ds.length 0 lo)
def tOF (K : Fg) (f : Rho → Option (Option Int)) : TO := fun σ H Q => ∃ Av ρ o, AvT H Av ∧ REnv K H Av σ ρ ∧ f ρ = some o ∧ ∀ H', Same H H' → Q o H'
abbrev PFO (X : Cx) (e : Option Expr) (f : Rho → Option (Option Int)) : Prop := PO X e (tOF X.K f)
theorem po_mono {o : Option Expr} {t t' : TO} (h : PO X o t) (m : ∀ σ H Q, t' σ H Q → t σ H Q) : PO X o t' := fun pins s σ H Q I q => h pins s σ H Q I (m σ H Q q)
def asI : Dat → Option Int
  | .int i => some i
  | _ => none
theorem asI_some {d : Dat} {b : Int} (h : asI d = some b) : d = .int b := by
  cases d <;> first | (cases h; done) | (simp only [asI, Option.some.injEq] at h; rw [h])
def oNone : Rho → Option (Option Int) := fun _ => some none
def oSome (f : Rho → Option Dat) : Rho → Option (Option Int) := fun ρ => (f ρ).bind fun d => (asI d).map some
theorem pfo_none : PFO X none oNone := po_mono po_none fun σ H Q ⟨Av, ρ, o, hA, hE, hf, q⟩ => by cases hf; exact q H (Same.refl H)
theorem pfo_some (h : PF X e f) : PFO X (some e) (oSome f) := po_mono (po_some h) fun σ H Q ⟨Av, ρ, o, hA, hE, hf, q⟩ => by
  obtain ⟨d, e1, hf⟩ := bind_some hf
  obtain ⟨i, e2, hf2⟩ := map_some' hf
  subst hf2
  have e3 := asI_some e2
  rw [e3] at e1
  exact ⟨Av, ρ, _, hA, hE, e1, fun x H' s r => ⟨i, r.i_inv, q H' s⟩⟩
def slD : Dat → Option Int → Option Int → Option Dat
  | .list ds, lo, hi => some (.list (cutD ds lo hi))
  | _, _, _ => none
def fSl (f : Rho → Option Dat) (fl fh : Rho → Option (Option Int)) : Rho → Option Dat := fun ρ => (f ρ).bind fun d => (fl ρ).bind fun l => (fh ρ).bind fun h => slD d l h
theorem pf_slice {lo hi : Option Expr} {fl fh : Rho → Option (Option Int)} {p2 : Pos} (h : PF X e f) (hl : PFO X lo fl) (hh : PFO X hi fh) : PF X (.Subscript e (.Slice lo hi none p2) pos) (fSl f fl fh) := pe_mono (pe_slice sl_list h hl hh) fun σ H Q ⟨Av, ρ, d, hA, hE, hf, q⟩ => by
  obtain ⟨dx, e1, hf⟩ := bind_some hf
  obtain ⟨l, e2, hf⟩ := bind_some hf
  obtain ⟨u, e3, hf⟩ := bind_some hf
  unfold slD at hf
  split at hf
  · cases hf
    refine ⟨Av, ρ, _, hA, hE, e1, fun x H1 s1 r1 => ⟨Av, ρ, l, hA.same s1, hE.same s1, e2, fun H2 s2 => ⟨Av, ρ, u, hA.same (s1.trans s2), hE.same (s1.trans s2), e3, fun H3 s3 => ?_⟩⟩⟩
    obtain ⟨a, xs, rfl, hq, rs⟩ := (r1.same (s2.trans s3)).l_inv
    refine ⟨a, xs, rfl, hq.sq, fun p hp => q _ _ ((s1.trans (s2.trans s3)).trans (same_new hp _)) (.newL (hA.same (s1.trans (s2.trans s3))) hp ?_)⟩
    unfold cutV cutD
    rw [rs.length]
    exact (rs.drop _).take _
  · cases hf
def capR (cap : List (Option Nat)) (ρ : Rho) : Rho := cap.map fun o => o.bind fun j => (ρ[j]?).join
def compL (gt : Dat → Option Asg) (ft : Rho → Option Bool) (fe : Rho → Option Dat) (ρ0 : Rho) : List Dat → Option (List Dat)
  | [] => some []
  | d :: r => (gt d).bind fun as => (ft (setR ρ0 as)).bind fun c => if c = true then (fe (setR ρ0 as)).bind fun v => (compL gt ft fe ρ0 r).map (v :: ·) else compL gt ft fe ρ0 r
def fComp (cap : List (Option Nat)) (gt : Dat → Option Asg) (ft : Rho → Option Bool) (fe : Rho → Option Dat) (fi : Rho → Option Dat) : Rho → Option (List Dat) := fun ρ => (fi ρ).bind fun d => (itemsD d).bind fun ds => if ds.length < sizeLine then compL gt ft fe (capR cap ρ) ds else none
theorem REnv.cap {K : Fg} {H : Hp} {Av : AvP} {σ : L2.St} {ρ : Rho} (h : REnv K H Av σ ρ) (cap : List (Option Nat)) : REnv K H Av (capV cap σ) (capR cap ρ) := fun i d e => by
  unfold capR at e
  rw [List.getElem?_map] at e
  cases hc : cap[i]? with
  | none => rw [hc] at e; cases e
  | some o =>
    rw [hc] at e
    cases o with
    | none => cases e
    | some j =>
      have e2 : some ((ρ[j]?).join) = some (some d) := e
      obtain ⟨v, hv, r⟩ := h j d (join_some (Option.some.inj e2))
      refine ⟨v, ?_, r⟩
      unfold capV
      rw [List.getElem?_map, hc]
      show some ((σ[j]?).join) = _
      rw [hv]; rfl
theorem REnv.setAll {K : Fg} {H : Hp} {Av : AvP} {ws : List (Nat × V)} {as : Asg} {σ : L2.St} {ρ : Rho} (h : RepA K H Av ws as) (hl : σ.length = ρ.length) (E : REnv K H Av σ ρ) : REnv K H Av (setV σ ws) (setR ρ as) := by
  induction h generalizing σ ρ with
  | nil => exact E
  | @cons i v d vs ds h r ih =>
    refine ih (σ := σ.set i (some v)) (ρ := ρ.set i (some d)) (by rw [List.length_set, List.length_set]; exact hl) fun j d' e => ?_
    have hlt := get_lt e
    rw [List.length_set] at hlt
    rcases set_get e with ⟨e1, q⟩ | ⟨e1, q⟩
    · subst e1
      cases q
      exact ⟨v, List.getElem?_set_self (by rw [hl]; exact hlt), h⟩
    · obtain ⟨u, a, b⟩ := E j d' q
      exact ⟨u, by rw [List.getElem?_set_ne (Ne.symm e1)]; exact a, b⟩
theorem LeS.refl : ∀ (a : L2.St), LeS a a
  | [] => trivial
  | none :: a => LeS.refl a
  | some v :: a => ⟨rfl, LeS.refl a⟩
theorem LeS.set : ∀ {a b : L2.St} {i : Nat} {x : Option V}, LeS a b → a[i]? = some none → LeS a (b.set i x)
  | none :: a, _ :: b, 0, x, h, _ => h
  | some v :: a, _ :: b, 0, x, h, e => by simp at e
  | none :: a, _ :: b, i + 1, x, h, e => LeS.set (a := a) (b := b) (i := i) h (by simpa using e)
  | some v :: a, _ :: b, i + 1, x, h, e => ⟨h.1, LeS.set (a := a) (b := b) (i := i) h.2 (by simpa using e)⟩
  | [], _, _, _, _, e => by simp at e
  | none :: _, [], _, _, h, _ => h.elim
  | some _ :: _, [], _, _, h, _ => h.elim
theorem LeS.setAll {K : Fg} {H : Hp} {Av : AvP} {ws : List (Nat × V)} {as : Asg} {a b : L2.St} (h : RepA K H Av ws as) (hs : ∀ p ∈ as, a[p.1]? = some none) (l : LeS a b) : LeS a (setV b ws) := by
  induction h generalizing b with
  | nil => exact l
  | @cons i v d vs ds h r ih => exact ih (fun p hp => hs p (List.mem_cons_of_mem _ hp)) (LeS.set l (hs _ List.mem_cons_self))
def TgOk (gt : Dat → Option Asg) (cap : List (Option Nat)) : Prop := ∀ d as, gt d = some as → ∀ p ∈ as, cap[p.1]? = some none
theorem tg_name {i : Nat} {cap : List (Option Nat)} (h : cap[i]? = some none) : TgOk (aName i) cap := fun d as e p hp => by
  cases e
  have : p = (i, d) := by simpa using hp
  subst this
  exact h
theorem tComp_F {K : Fg} {cap : List (Option Nat)} {gt : Dat → Option Asg} {ft : Rho → Option Bool} {fe fi : Rho → Option Dat} (ht : TgOk gt cap) : ∀ σ H Q, tFL K (fComp cap gt ft fe fi) σ H Q → tComp cap (iSeq K (tF K fi)) (tGF K gt) (tTF K ft) (tF K fe) σ H Q := by
  rintro σ H Q ⟨Av, ρ, out, hA, hE, hf, q⟩
  obtain ⟨d, e1, hf⟩ := bind_some hf
  obtain ⟨ds, e2, hf⟩ := bind_some hf
  split at hf
  · rename_i hz
    refine ⟨Av, ρ, d, hA, hE, e1, fun x H1 s1 r => ?_⟩
    have main : ∀ J : It, Over K J x d ds → ∃ W : Nat → Nat → List V → Hp → Prop, (∃ m, W 0 m [] H1) ∧ ∀ i m ys H, W i m ys H → ys.length < sizeLine ∧
        ((J.stop i H ∧ ∀ D, H D = none → Q (.ref D) (upd H D (.lst ys))) ∨
         (J.go i H ∧ ∀ x H', J.yld i H x H' → tGF K gt x (capV cap σ) H' fun σ2 H2 => LeS (capV cap σ) σ2 ∧ tTF K ft σ2 H2 fun b H3 => if b = true then tF K fe σ2 H3 fun v H4 => ∃ m', m' < m ∧ W (i + 1) m' (ys ++ [v]) H4 else ∃ m', m' < m ∧ W (i + 1) m' ys H3)) := by
      intro J ov
      refine ⟨fun i m ys H2 => m = ds.length - i ∧ i ≤ ds.length ∧ Same H1 H2 ∧ ∃ o1 o2, RepDs K H2 Av ys o1 ∧ o1.length ≤ i ∧ compL gt ft fe (capR cap ρ) (ds.drop i) = some o2 ∧ out = o1 ++ o2,
        ⟨_, rfl, Nat.zero_le _, Same.refl _, [], out, .nil, Nat.le_refl _, by rw [List.drop_zero]; exact hf, rfl⟩, ?_⟩
      rintro i m ys H2 ⟨rfl, hi, s2, o1, o2, ro, hl, hc, rfl⟩
      refine ⟨by have := ro.length; omega, ?_⟩
      have rx := r.same s2
      cases hdi : ds[i]? with
      | none =>
        have hle : ds.length ≤ i := List.getElem?_eq_none_iff.mp hdi
        rw [List.drop_eq_nil_of_le hle] at hc
        cases hc
        refine .inl ⟨(ov i H2 _ rx).1 hle, fun D hD => q H2 D ys (s1.trans s2) hD (by rw [List.append_nil]; exact ro)⟩
      | some di =>
        have hlt := get_lt hdi
        rw [drop_cons hdi] at hc
        obtain ⟨as, a1, hc⟩ := bind_some (show (gt di).bind _ = some o2 from hc)
        obtain ⟨k, a2, hc⟩ := bind_some hc
        obtain ⟨go, yl⟩ := (ov i H2 _ rx).2 di hdi
        refine .inr ⟨go, fun y H' hy => ?_⟩
        obtain ⟨eH, ry⟩ := yl y H' hy
        subst eH
        refine ⟨Av, di, as, ry, a1, fun ws hw => ?_⟩
        have cs : ∀ p ∈ as, (capV cap σ)[p.1]? = some none := fun p hp => by
          unfold capV
          rw [List.getElem?_map, ht di as a1 p hp]; rfl
        have A2 := hA.same (s1.trans s2)
        have E2 : REnv K H' Av (setV (capV cap σ) ws) (setR (capR cap ρ) as) := REnv.setAll hw (by unfold capV capR; rw [List.length_map, List.length_map]) ((hE.same (s1.trans s2)).cap cap)
        refine ⟨LeS.setAll hw cs (LeS.refl _), Av, _, k, A2, E2, a2, fun H3 s3 => ?_⟩
        cases k with
        | false =>
          rw [if_neg Bool.false_ne_true] at hc ⊢
          exact ⟨ds.length - (i + 1), by omega, rfl, by omega, s2.trans s3, o1, o2, ro.same s3, by omega, hc, rfl⟩
        | true =>
          rw [if_pos rfl] at hc ⊢
          obtain ⟨dv, a3, hc⟩ := bind_some hc
          obtain ⟨o3, a4, hc⟩ := map_some' hc
          subst hc
          refine ⟨Av, _, dv, A2.same s3, E2.same s3, a3, fun v H4 s4 rv => ⟨ds.length - (i + 1), by omega, rfl, by omega, s2.trans (s3.trans s4), o1 ++ [dv], o3, (ro.same (s3.trans s4)).append (.cons rv .nil), ?_, a4, ?_⟩⟩
          · rw [List.length_append, List.length_singleton]; omega
          · rw [List.append_assoc]; rfl
    cases d with
    | list ds' =>
      cases e2
      obtain ⟨a, xs, rfl, hq, rs⟩ := r.l_inv
      exact ⟨a, rfl, .inl ⟨⟨xs, hq.sq⟩, main _ over_list⟩⟩
    | tuple ds' =>
      cases e2
      obtain ⟨a, xs, rfl, hq, rs⟩ := r.t_inv
      exact ⟨a, rfl, .inr ⟨⟨xs, hq.sq⟩, main _ over_tup⟩⟩
    | _ => cases e2
  · cases hf
theorem pfl_comp {tg iter elt : Expr} {ifs : List Expr} {scope : Scope} {cl : List (Str × Addr)} {N' : List Str} {cap : List (Option Nat)} {gt : Dat → Option Asg} {fe fi : Rho → Option Dat}
    (hc : X.calm = true) (B : Blk X scope cl N' cap) (hi : PF X iter fi) (hg : ∀ C s₀ H₀ ex, PG (blk X scope cl N' C s₀ H₀ ex) tg (tGF X.K gt)) (ht : ∀ C s₀ H₀ ex, PTs (blk X scope cl N' C s₀ H₀ ex) ifs (tTF X.K ft)) (he : ∀ C s₀ H₀ ex, PF (blk X scope cl N' C s₀ H₀ ex) elt fe) (hT : TgOk gt cap)
    (hs : ∀ x, foldedSetIterable iter X.env x = pure x := by intro _; rfl) : PE X (.ListComp elt [⟨tg, iter, ifs, 0⟩] scope pos) (tFL X.K (fComp cap gt ft fe fi)) := pe_mono (pe_comp hc B (pi_seq hi) hg ht he hs) (tComp_F hT)
def fL (f : Rho → Option (List Dat)) : Rho → Option Dat := fun ρ => (f ρ).map .list
theorem pf_of_l (h : PE X e (tFL X.K fs)) : PF X e (fL fs) := pe_mono h fun σ H Q ⟨Av, ρ, d, hA, hE, hf, q⟩ => by
  obtain ⟨ds, e1, hf⟩ := map_some' hf
  subst hf
  exact ⟨Av, ρ, ds, hA, hE, e1, fun H1 p xs s hp r => q _ _ (s.trans (same_new hp _)) (.newL (hA.same s) hp r)⟩
def tYesF : Rho → Option Bool := fun _ => some true
theorem ptsf_nil : PTs X [] (tTF X.K tYesF) := fun pins s σ H Q I ⟨Av, ρ, b, hA, hE, hf, q⟩ => by cases hf; exact pts_nil pins s σ H Q I (q H (Same.refl H))
end
end L3
namespace L3
open PySem PySem.Spec PyProof.Rows L2
open PySem.W (Dat kqdOk)
section
variable {X : Cx} {a b c e : Expr} {es : List Expr} {pos : Pos} {fa fb fc f : Rho → Option Dat} {fs : Rho → Option (List Dat)} {ft : Rho → Option Bool}
def sPar (i j : Nat) (fs : Rho → Option (List Dat)) : Gam → Option Fl := fun Γ => (fs (immV Γ)).bind fun ds => match ds with
  | [d, d'] => some (.nx ((Γ.set i (some (.imm d))).set j (some (.imm d'))))
  | _ => none
theorem psf_par (i j : Nat) {x y : Str} {px py pt : Pos} {kt k2 pt2} (hc : X.calm = true) (hN : X.N.Nodup) (hij : i ≠ j) (ha : PFA X [a, b] fs) (hi : X.N[i]? = some x := by rfl) (hj : X.N[j]? = some y := by rfl)
    (hx : X.env.scope.names.lookup x = some .local := by rfl) (hy : X.env.scope.names.lookup y = some .local := by rfl)
    (hw : swappedStores [.Tuple [.Name x px, .Name y py] kt pt] (.Tuple [a, b] k2 pt2) X.env = pure (some [x, y]) := by rfl)
    (hs : swapsWithSole [.Tuple [.Name x px, .Name y py] kt pt] (.Tuple [a, b] k2 pt2) pos.line X.env = pure false := by rfl) :
    PSF X (.Assign [.Tuple [.Name x px, .Name y py] kt pt] (.Tuple [a, b] k2 pt2) pos) (sPar i j fs) := ps_mono (ps_par hc hN hi hj hij hx hy ha hw hs) fun D σ H ⟨H₀, Av, pn, hid, Γ, fl, ⟨ad, G⟩, hf, q⟩ => by
  obtain ⟨ds, e1, hf⟩ := bind_some hf
  refine ⟨AvG Av Γ ad, immV Γ, ds, G.avG, G.envI, e1, fun vs H1 s1 r => ?_⟩
  match ds, hf with
  | [d, d'], hf =>
    cases hf
    obtain ⟨v, u, rfl, rv, ru⟩ := r.two_inv
    exact ⟨v, u, rfl, q _ _ ⟨ad, ((G.grow s1).set i rv).set j (ru.weak AvG.set_imm)⟩⟩
theorem blk_plain {scope : Scope} {N' : List Str} (hf : ∀ y ∈ scope.names, y.2 ≠ .free := by decide +kernel) (hc : ∀ y ∈ scope.names, y.2 ≠ .cell := by decide +kernel) (hk : scope.kind = .function := by rfl) (hn : ∀ y ∈ scope.names, y.2 = .local → scope.names.lookup y.1 = some .local := by decide +kernel) (nd : N'.Nodup := by decide +kernel) : Blk X scope [] N' (N'.map fun _ => none) := by
  have rl : (relabel scope X.env).names = scope.names := by
    unfold relabel
    exact map_eq_self (l := scope.names) fun x hx => by
      obtain ⟨n, k⟩ := x
      have : (k == NameKind.free) = false := by simpa using hf _ hx
      simp [this]
  refine ⟨closureFor_none hf, hc, hk, hn, nd, by rw [List.length_map], fun x c h => (by cases h), fun x h => ?_, fun i x j e1 e2 => ?_⟩
  · rw [rl] at h
    rcases h with h | h
    · exact absurd rfl (hc _ (PySem.mem_of_lookup h))
    · exact absurd rfl (hf _ (PySem.mem_of_lookup h))
  · rw [List.getElem?_map] at e2
    cases h : N'[i]? with
    | none => rw [h] at e2; cases e2
    | some y => rw [h] at e2; cases e2
end
def spLaw (K : Fg) : Sp := fun vs H Q _ => ∃ (a : Addr) (ns : List Int), vs = [.ref a] ∧ SqL K H a (ns.map V.int) ∧ ns.length ≤ 63 ∧ ∀ H', Q (.bl true) H'
theorem law_of {P : Program} {w : World} {K : Fg} {mg : Str → Option Value} {base : Heap} {k : Nat} {f : Addr} {fd : FuncData} {ps : List Str} {F : List Dat → Option Dat} (h : FnOk P w K mg base CX0 k f fd ps (spF K 1 F)) (hF : ∀ ns : List Int, ns.length ≤ 63 → F [.list (ns.map .int)] = some (.bool true)) : FnOk P w K mg base CX0 k f fd ps (spLaw K) :=
  h.imp fun vs H Q E ⟨a, ns, e, hS, hl, q⟩ => by
    subst e
    refine ⟨fun _ => False, [.list (ns.map .int)], .bool true, fun _ z => z.elim, .cons (.lst ?_ (RepDs.ints ns)) .nil, rfl, hF ns hl, fun v H' _ r => by rw [r.b_inv]; exact q H'⟩
    rcases hS with h | h
    · exact .inl ⟨h, fun z => z⟩
    · exact .inr h
theorem walkL {l : PySem.W.OpenLaw} {q : Program} {loose : List Str} {XP : (Str → Option Value) → Heap → Prop} {YP : World → Heap → Prop} {d : DefRec} {K : Params → Fg} {k : Nat} (hk : k ≤ 100) (hn : l.most = some 63) (hdf : d.params.defaults = [])
    (hY : ∀ (w : World) (h : Heap), YP w h → (K w.params).In h)
    (F : ∀ (w : World) (mg : Str → Option Value) (fa : Addr) (h : Heap), (K w.params).In h → h.Ns mainGlobals mg → mg d.name = some (.ref fa) →
      ∃ fd : FuncData, (∀ (s : Shared) (u : Value), BindsTo s fd ⟨[u], []⟩ [("script", u)]) ∧ ∀ base : Heap, (K w.params).In base → base.Ns mainGlobals mg → FnOk l.prog w (K w.params) mg base CX0 100 fa fd ["script"] (spLaw (K w.params))) :
    PySem.W.WalkO q loose XP YP l.row.toRowW d [] (fun f vs => PySem.call f vs) :=
  L2.walk_of (n := 63) (k := 100) (x := "script") (CX := fun _ => CX0) (sp := fun w => spLaw (K w.params)) hn (by decide) hdf ⟨rfl, by decide, by decide⟩ hY F (fun _ _ a ns hl _ hS => ⟨a, ns, rfl, hS, hl, fun _ => rfl⟩) fun _ _ _ _ _ z => z
end L3
namespace L3
open PySem PySem.Spec PyProof.Rows L2
open PySem.W (Dat kqdOk)
section
variable {X : Cx} {a b : Expr} {pos : Pos} {fa fb : Rho → Option Dat}
def rCatS (K : Fg) : R2 := fun x y H Q => ∃ l b xs zs, x = .ref l ∧ y = .ref b ∧ SqL K H l xs ∧ SqL K H b zs ∧ xs.length + zs.length ≤ sizeLine ∧ ∀ p, H p = none → Q (.ref p) (upd H p (.lst (xs ++ zs)))
theorem op_catS : OpR X (binaryOp .Add) (rCatS X.K) := by
  intro pins s σ H x y v u Q I rx ry h
  obtain ⟨l, b, xs, zs, rfl, rfl, hH, hB, hz, q⟩ := h
  cases rx
  cases ry
  obtain ⟨its, r, ⟨⟨cls, dd, data, sl⟩, n, ho, hc, hd0, hd⟩, _⟩ := I.list hH
  obtain ⟨its2, r2, ⟨⟨cls2, dd2, data2, sl2⟩, n2, ho2, hc2, hd02, hd2⟩, _⟩ := I.list hB
  simp only at hc hd hc2 hd2
  subst hc hd hc2 hd2
  have h1 := r.length
  have h2 := r2.length
  have e : its.toArray ++ its2.toArray = (its ++ its2).toArray := by simp
  refine PySem.concat_meets ⟨_, ho, rfl⟩ ⟨_, ho2, rfl⟩ PySem.noFill_list_add PySem.seq_list_add PySem.F.slot_list_add PySem.F.entry_list_add (PySem.F.args_list_add_2 _ _) (list_addW l b its.toArray its2.toArray n n2 dd dd2 sl sl2 (by rw [List.size_toArray, List.size_toArray]; omega)) ⟨ho, ho2, ?_⟩
  rw [e]
  exact ⟨.ref _, _, I.lnew (t' := s.toks) (r.append r2) (by rw [List.length_append]; omega), rfl, q _ I.fresh⟩
def catD : Dat → Dat → Option Dat
  | .list xs, .list ys => if xs.length + ys.length ≤ sizeLine then some (.list (xs ++ ys)) else none
  | _, _ => none
theorem pf_cat (ha : PF X a fa) (hb : PF X b fb) : PF X (.BinOp a .Add b pos) (f2 catD fa fb) := pf_bin op_catS (by
  intro H Av x y dx dy d Q hA rx ry h q
  unfold catD at h
  split at h
  · split at h
    · rename_i hz
      cases h
      obtain ⟨l, xs, rfl, hq, rs⟩ := rx.l_inv
      obtain ⟨m, ys, rfl, hq2, rs2⟩ := ry.l_inv
      exact ⟨l, m, xs, ys, rfl, rfl, hq.sq, hq2.sq, by rw [rs.length, rs2.length]; exact hz, fun p hp => q _ _ (same_new hp _) (.newL hA hp (rs.append rs2))⟩
    · cases h
  · cases h) ha hb
end
end L3
namespace L3
open PySem PySem.Spec PyProof.Rows L2
open PySem.W (Dat kqdOk)
section
variable {X : Cx} {a b : Expr} {pos : Pos} {fa fb : Rho → Option Dat} {ft : Rho → Option Bool}
def sSetC (i : Nat) (f : Rho → Option (List Dat)) : Gam → Option Fl := fun Γ => (f (immV Γ)).map fun ds => .nx (Γ.set i (some (.imm (.list ds))))
theorem lookup_fv {f : Str → Addr} : ∀ {fv : List Str} {y : Str}, y ∈ fv → (fv.map fun x => (x, f x)).lookup y = some (f y)
  | x :: r, y, h => by
    rw [List.map_cons, List.lookup_cons]
    by_cases e : y = x
    · subst e; simp
    · have : (y == x) = false := by simpa using e
      rw [this]
      exact lookup_fv (by simpa [e] using h)
theorem of_lookup_fv {f : Str → Addr} : ∀ {fv : List Str} {y : Str} {c : Addr}, (fv.map fun x => (x, f x)).lookup y = some c → y ∈ fv ∧ c = f y
  | [], y, c, h => by simp at h
  | x :: r, y, c, h => by
    rw [List.map_cons, List.lookup_cons] at h
    by_cases e : y = x
    · subst e
      simp at h
      exact ⟨List.mem_cons_self, h.symm⟩
    · have : (y == x) = false := by simpa using e
      rw [this] at h
      obtain ⟨h1, h2⟩ := of_lookup_fv h
      exact ⟨List.mem_cons_of_mem _ h1, h2⟩
theorem blk_cap {scope : Scope} {tn fv : List Str} {js : List Nat} (hcl : closureFor scope X.env = pure (fv.map fun x => (x, (X.env.cells.lookup x).getD 0)))
    (hf : ∀ y ∈ scope.names, y.2 = .free → y.1 ∈ fv) (hc : ∀ y ∈ scope.names, y.2 ≠ .cell) (hk : scope.kind = .function) (hn : ∀ y ∈ scope.names, y.2 = .local → scope.names.lookup y.1 = some .local) (nd : (tn ++ fv).Nodup)
    (hl : fv.length = js.length) (hs : ∀ x ∈ fv, ∃ c, X.env.cells.lookup x = some c)
    (hj : ∀ p ∈ fv.zip js, X.N[p.2]? = some p.1 ∧ Vis X.env.scope p.1 ∧ ((relabel scope X.env).names.lookup p.1 = some .cell ∨ (relabel scope X.env).names.lookup p.1 = some .free) ∧ X.env.scope.names.lookup p.1 ≠ some .local) :
    Blk X scope (fv.map fun x => (x, (X.env.cells.lookup x).getD 0)) (tn ++ fv) ((tn.map fun _ => none) ++ js.map some) := by
  refine ⟨hcl, hc, hk, hn, nd, by rw [List.length_append, List.length_append, List.length_map, List.length_map, hl], fun y c h => ?_, fun y h => ?_, fun i x j e1 e2 => ?_⟩
  · obtain ⟨h1, h2⟩ := of_lookup_fv h
    obtain ⟨c', e⟩ := hs y h1
    rw [h2, e]; rfl
  · have hm : (y, NameKind.cell) ∈ (relabel scope X.env).names ∨ (y, NameKind.free) ∈ (relabel scope X.env).names := h.elim (fun z => .inl (PySem.mem_of_lookup z)) fun z => .inr (PySem.mem_of_lookup z)
    have : y ∈ fv := by
      rcases hm with hm | hm
      all_goals
        obtain ⟨⟨n, k⟩, hp, e⟩ := List.mem_map.mp hm
        dsimp only at e
        split at e
        · rename_i hcond
          have hk : k = .free := by
            cases k <;> first | rfl | (simp at hcond)
          first
            | (cases e; done)
            | (cases e; exact hf _ hp hk)
        · first
            | (cases e; done)
            | (cases e; exact absurd rfl (hc _ hp))
            | (cases e; exact hf _ hp rfl)
    exact ⟨_, lookup_fv this⟩
  · by_cases hi : i < tn.length
    · rw [List.getElem?_append_left (by rw [List.length_map]; exact hi), List.getElem?_map, List.getElem?_eq_getElem hi] at e2
      cases e2
    · rw [List.getElem?_append_right (by omega)] at e1
      rw [List.getElem?_append_right (by rw [List.length_map]; omega), List.length_map, List.getElem?_map] at e2
      cases ej : js[i - tn.length]? with
      | none => rw [ej] at e2; cases e2
      | some j' =>
        rw [ej] at e2
        cases e2
        refine hj (x, j) ?_
        have h1 := (List.getElem?_eq_some_iff.mp e1)
        have h2 := (List.getElem?_eq_some_iff.mp ej)
        have h3 : (fv.zip js)[i - tn.length]? = some (x, j) := by rw [List.getElem?_zip_eq_some]; exact ⟨e1, ej⟩
        exact List.mem_of_getElem? h3
end
end L3
namespace L3
open PySem PySem.Spec PyProof.Rows L2
open PySem.W (Dat kqdOk)
section
variable {X : Cx} {a b c e : Expr} {pos : Pos} {fa fb fc f : Rho → Option Dat} {fs : Rho → Option (List Dat)}
def listD : List Dat → Option (List Dat)
  | [.list ds] => some ds
  | [.tuple ds] => some ds
  | _ => none
theorem pfl_list {p : Pos} {es : List Expr} (hm : X.mg "list" = none) (ha : PFA X (e :: es) fs) (hg : Gl X "list" := by rfl) (he : starEach (e :: es) X.env = (false, eval e X.env) :: starEach es X.env := by rfl) (hpl : (backTo pos (starEach es X.env)).any (·.1) = false := by rfl) :
    PE X (.Call (.Name "list" p) (e :: es) [] pos) (tFL X.K fun ρ => (fs ρ).bind listD) := pe_mono (pe_callTy call_list_of hg hm (by decide +kernel) ha (by decide) (by decide) he hpl) fun σ H Q ⟨Av, ρ, ds, hA, hE, hf, q⟩ => by
  obtain ⟨as, e1, hf⟩ := bind_some hf
  refine ⟨Av, ρ, as, hA, hE, e1, fun vs H1 s1 r => ?_⟩
  unfold listD at hf
  split at hf
  · cases hf
    obtain ⟨v, rfl, rv⟩ := r.one_inv
    obtain ⟨p, xs, rfl, hq, rs⟩ := rv.l_inv
    exact ⟨p, xs, rfl, .inl hq.sq, fun l hl => q H1 l xs s1 hl rs⟩
  · cases hf
    obtain ⟨v, rfl, rv⟩ := r.one_inv
    obtain ⟨p, xs, rfl, hq, rs⟩ := rv.t_inv
    exact ⟨p, xs, rfl, .inr hq.sq, fun l hl => q H1 l xs s1 hl rs⟩
  · cases hf
def tupleD : List Dat → Option Dat
  | [.list ds] => some (.tuple ds)
  | [.tuple ds] => some (.tuple ds)
  | _ => none
theorem callD_tuple {K : Fg} : CallD K (fun xs H Q => ∃ p ys, xs = [.ref p] ∧ ((SqL K H p ys ∧ ∀ l, H l = none → Q (.ref l) (upd H l (.tup ys))) ∨ (SqT K H p ys ∧ Q (.ref p) H))) tupleD := by
  intro H Av xs ds d Q hA r h q
  unfold tupleD at h
  split at h
  · cases h
    obtain ⟨v, rfl, rv⟩ := r.one_inv
    obtain ⟨p, xs, rfl, hq, rs⟩ := rv.l_inv
    exact ⟨p, xs, rfl, .inl ⟨hq.sq, fun l hl => q _ _ (same_new hl _) (.newT hA hl rs)⟩⟩
  · cases h
    obtain ⟨v, rfl, rv⟩ := r.one_inv
    have rv' := rv
    obtain ⟨p, xs, rfl, hq, rs⟩ := rv.t_inv
    exact ⟨p, xs, rfl, .inr ⟨hq.sq, q _ H (Same.refl H) rv'⟩⟩
  · cases h
theorem pf_tuple {p : Pos} {es : List Expr} (hm : X.mg "tuple" = none) (ha : PFA X (e :: es) fs) (hg : Gl X "tuple" := by rfl) (he : starEach (e :: es) X.env = (false, eval e X.env) :: starEach es X.env := by rfl) (hpl : (backTo pos (starEach es X.env)).any (·.1) = false := by rfl) : PF X (.Call (.Name "tuple" p) (e :: es) [] pos) (fCall tupleD fs) :=
  pf_callTy call_tuple_of callD_tuple hm ha hg (by decide +kernel) (by decide) (by decide) he hpl
end
end L3
namespace L3
open PySem PySem.Spec PyProof.Rows L2
open PySem.W (Dat kqdOk)
section
variable {X : Cx} {e : Expr} {f : Rho → Option Dat} {pos : Pos}
def ModT (K : Fg) (a : Addr) (ds : List Dat) : Prop := ∃ (xs : List V) (o : Obj) (its : Array Value) (n : Nat), K.lookup a = some o ∧ o.cls = .type "tuple" ∧ o.data = .seq its n ∧ its.size ≤ sizeLine ∧ Vals xs its.toList ∧ ∀ H Av, RepDs K H Av xs ds
theorem pf_globT {x : Str} {a : Addr} {ds : List Dat} {p : Pos} (hm : X.mg x = some (.ref a)) (ht : ModT X.K a ds) (hg : Gl X x := by rfl) (hd : (x == ("__debug__" : Str)) = false := by decide) : PF X (.Name x p) (fC (.tuple ds)) := by
  obtain ⟨xs, o, its, n, h1, h2, h3, h4, h5, h6⟩ := ht
  exact pe_mono (pe_glob (v := .ref a) hg hm rfl hd) fun σ H Q ⟨Av, ρ, d, hA, hE, hf, q⟩ => by cases hf; exact q _ H (Same.refl H) (.tup (.inr ⟨o, its, n, h1, h2, h3, h4, h5⟩) (h6 H Av))
end
end L3
namespace L3
open PySem PySem.Spec PyProof.Rows L2
open PySem.W (Dat kqdOk)
section
variable {X : Cx} {e : Expr} {es : List Expr} {fs : Rho → Option (List Dat)} {f : Rho → Option Dat} {pos : Pos}
theorem vals_bl : ∀ {bs : List Bool} {us : List Value}, Vals (bs.map V.bl) us → us = bs.map Value.bool
  | [], _, h => by cases h; rfl
  | b :: bs, _, h => by
    cases h with
    | cons r h =>
      cases r
      rw [vals_bl h]; rfl
def rAll (X : Cx) : List V → Hp → VK → Prop := fun xs H Q => ∃ (p : Addr) (bs : List Bool), xs = [.ref p] ∧ SqL X.K H p (bs.map .bl) ∧ Q (.bl (bs.all id)) H
theorem call_allB (hc : X.calm = true) : CallR X (.builtin "all") (rAll X) := by
  intro pins s σ H xs us Q I r h
  obtain ⟨p, bs, rfl, hq, q⟩ := h
  obtain ⟨u, rfl, rx⟩ := vals1 r
  cases rx
  obtain ⟨its, r', pl, hz⟩ := I.list hq
  have hb := vals_bl r'
  subst hb
  have old : ∀ (b : Addr) (x : Obj), s.heap.get? b = some x → b ≠ s.heap.objs.size := fun b x e z => by
    rw [z] at e
    exact absurd (Heap.lt_size e) (Nat.lt_irrefl _)
  have ne : p ≠ s.heap.objs.size := by
    obtain ⟨x, e, _⟩ := pl.isList
    exact old p x e
  refine call_all_walk (wpAny_pyIter_list pl.isList ?_)
  have W := Walks.list (prog := X.prog) (w := X.w) (A := X.A.in1) (I.ok.hd hc) s.heap.objs.size p ne (bs.map Value.bool).toArray
  refine ⟨_, _, _, _, _, _, fun i => (bs[i]?).getD true, rfl, W, ?_, ?_, ?_⟩
  · exact And.intro ⟨_, Heap.get?_push_size _ rfl, rfl, rfl⟩ (pl.isList.push _)
  · intro i v s' Q' E' at_i go
    have at_i : (bs[i]?).map Value.bool = some v := by simpa using at_i
    obtain ⟨b, eb, rfl⟩ := Option.map_eq_some_iff.mp at_i
    have go : Q' ((bs[i]?).getD true) s' := go
    rw [eb] at go
    exact wpAny_truthy_bool go
  · intro h' tk keep
    have sz : (bs.map Value.bool).toArray.size = bs.length := by simp
    rw [sz, PyProof.Rows.LSm.range_all bs]
    exact ⟨.bl (bs.all id), H, I.kept fun b x e => keep b x (fun hm => old b x e (List.mem_singleton.mp hm)) (Heap.get?_push_of_some _ e), rfl, q⟩
def asBs : List Dat → Option (List Bool)
  | [] => some []
  | .bool b :: ds => (asBs ds).map (b :: ·)
  | _ => none
theorem asBs_map : ∀ bs : List Bool, asBs (bs.map Dat.bool) = some bs
  | [] => rfl
  | b :: bs => by simp only [List.map_cons, asBs, asBs_map bs, Option.map_some]
theorem reps_bl {K : Fg} {H : Hp} {Av : AvP} : ∀ {ds : List Dat} {bs : List Bool} {xs : List V}, asBs ds = some bs → RepDs K H Av xs ds → xs = bs.map .bl
  | [], _, _, h, r => by cases h; cases r; rfl
  | d :: ds, bs, _, h, r => by
    cases d with
    | bool b =>
      obtain ⟨bs', e1, rfl⟩ := Option.map_eq_some_iff.mp (show (asBs ds).map (b :: ·) = some bs from h)
      cases r with
      | cons r1 r2 =>
        rw [r1.b_inv, reps_bl e1 r2]; rfl
    | _ => cases h
def allD : List Dat → Option Dat
  | [.list ds] => (asBs ds).map fun bs => .bool (bs.all id)
  | _ => none
theorem callD_all : CallD X.K (rAll X) allD := by
  intro H Av xs ds d Q hA r h q
  unfold allD at h
  split at h
  · obtain ⟨bs, e1, rfl⟩ := Option.map_eq_some_iff.mp h
    obtain ⟨v, rfl, rv⟩ := r.one_inv
    obtain ⟨a, ys, rfl, hq, rs⟩ := rv.l_inv
    rw [reps_bl e1 rs] at hq
    exact ⟨a, bs, rfl, hq.sq, q _ H (Same.refl H) (.bl _)⟩
  · cases h
theorem pf_all {p : Pos} (hc : X.calm = true) (hm : X.mg "all" = none) (ha : PFA X (e :: es) fs) (hg : Gl X "all" := by rfl) (he : starEach (e :: es) X.env = (false, eval e X.env) :: starEach es X.env := by rfl) (hpl : (backTo pos (starEach es X.env)).any (·.1) = false := by rfl) : PF X (.Call (.Name "all" p) (e :: es) [] pos) (fCall allD fs) :=
  pf_callB (call_allB hc) callD_all hm ha hg (by decide +kernel) (by decide) (by decide) he hpl
end
end L3
namespace L3
open PySem PySem.Spec PyProof.Rows L2
open PySem.W (Dat kqdOk)
section
variable {K : Fg} {H₀ H H' : Hp} {Av : AvP} {pn : Option Addr} {hid : Hid} {σ : L2.St} {Γ : Gam} {ad : Nat → Addr} {i : Nat} {ds es : List Dat} {ys : List V}
theorem AvG.set_own (hi : Γ[i]? = some (some (.own ds))) : ∀ a, AvG Av (Γ.set i (some (.own es))) ad a → AvG Av Γ ad a := by
  rintro a (z | ⟨j, fs, e, m, q⟩)
  · exact .inl z
  · rcases set_get e with ⟨e1, _⟩ | ⟨e1, q1⟩
    · subst e1; exact .inr ⟨j, _, hi, rfl, q⟩
    · exact .inr ⟨j, fs, q1, m, q⟩
theorem AvG.of_set_own (hi : Γ[i]? = some (some (.own ds))) : ∀ a, AvG Av Γ ad a → AvG Av (Γ.set i (some (.own es))) ad a := by
  rintro a (z | ⟨j, fs, e, m, q⟩)
  · exact .inl z
  · by_cases e1 : j = i
    · subst e1; exact .inr ⟨j, .own es, List.getElem?_set_self (get_lt hi), rfl, q⟩
    · exact .inr ⟨j, fs, by rw [List.getElem?_set_ne (Ne.symm e1)]; exact e, m, q⟩
theorem lendKeep (hi : Γ[i]? = some (some (.own ds))) (k : ∀ b o, H b = some o → b ≠ ad i → H' b = some o) : Keep H (AvG Av Γ ad) H' (AvG Av (Γ.set i (some (.own es))) ad) :=
  fun b o h n => ⟨k b o h fun z => n (.inr ⟨i, _, hi, rfl, z.symm⟩), fun z => n (AvG.set_own hi b z)⟩
theorem GA.lend (G : GA K H₀ Av pn hid H σ Γ ad) (hi : Γ[i]? = some (some (.own ds))) (k : ∀ b o, H b = some o → b ≠ ad i → H' b = some o) (hn : H' (ad i) = some (.lst ys)) (r : RepDs K H' (AvG Av Γ ad) ys es) :
    GA K H₀ Av pn hid H' σ (Γ.set i (some (.own es))) ad := by
  have hlt : i < Γ.length := get_lt hi
  have kp := lendKeep (Av := Av) (es := es) hi k
  obtain ⟨xs0, g1, g2, g3, g4⟩ := G.own i ds hi
  refine ⟨fun b o h => k b o (G.same b o h) (ne_of_none h g4), G.avt, by rw [List.length_set]; exact G.len, fun j d' h => ?_, fun j fs h => ?_, fun j l fs gs h1 h2 m1 m2 e => ?_, fun p hp => (G.hid p hp).mono kp, fun a fs e h => ?_, fun j O fs h => ?_⟩
  · rcases set_get h with ⟨_, q⟩ | ⟨_, q⟩
    · cases q
    · obtain ⟨u, a, b⟩ := G.imm j d' q
      exact ⟨u, a, b.mono kp⟩
  · rcases set_get h with ⟨e, q⟩ | ⟨e, q⟩
    · subst e
      cases q
      exact ⟨ys, g1, hn, r.weak (AvG.set_own hi), g4⟩
    · obtain ⟨zs, a, b, c, e'⟩ := G.own j fs q
      exact ⟨zs, a, k _ _ b fun z => e (G.injO j i fs ds q hi z), c.mono kp, e'⟩
  · rcases set_get h1 with ⟨e1, q1⟩ | ⟨e1, q1⟩
    · rcases set_get h2 with ⟨e2, q2⟩ | ⟨e2, q2⟩
      · rw [e1, e2]
      · subst e1; exact G.inj j l _ gs hi q2 rfl m2 e
    · rcases set_get h2 with ⟨e2, q2⟩ | ⟨e2, q2⟩
      · subst e2; exact G.inj j l fs _ q1 hi m1 rfl e
      · exact G.inj j l fs gs q1 q2 m1 m2 e
  · rcases set_get h with ⟨z, _⟩ | ⟨_, q⟩
    · subst z; exact G.pin a ds e hi
    · exact G.pin a fs e q
  · rcases set_get h with ⟨e, q⟩ | ⟨e, q⟩
    · cases q
    · obtain ⟨zs, a, b, c, e'⟩ := G.obj j O fs q
      exact ⟨zs, a, k _ _ b fun z => e (G.inj j i _ _ q hi rfl rfl z), c.mono kp, e'⟩
end
abbrev HF := Gam → Option (Dat × Gam)
def tH (K : Fg) (f : HF) : TE := fun σ H Q => ∃ H₀ Av pn hid Γ ad d Γ', GA K H₀ Av pn hid H σ Γ ad ∧ f Γ = some (d, Γ') ∧ ∀ v H' ad', GA K H₀ Av pn hid H' σ Γ' ad' → RepD K H' (AvG Av Γ' ad') v d → Q v H'
def tTH (K : Fg) (f : Gam → Option (Bool × Gam)) : TT := fun σ H Q => ∃ H₀ Av pn hid Γ ad d Γ', GA K H₀ Av pn hid H σ Γ ad ∧ f Γ = some (d, Γ') ∧ ∀ H' ad', GA K H₀ Av pn hid H' σ Γ' ad' → Q d H'
def tHA (K : Fg) (f : Gam → Option (List Dat × Gam)) : TA := fun σ H Q => ∃ H₀ Av pn hid Γ ad d Γ', GA K H₀ Av pn hid H σ Γ ad ∧ f Γ = some (d, Γ') ∧ ∀ vs H' ad', GA K H₀ Av pn hid H' σ Γ' ad' → RepDs K H' (AvG Av Γ' ad') vs d → Q vs H'
abbrev PH (X : Cx) (e : Expr) (f : HF) : Prop := PE X e (tH X.K f)
abbrev PHT (X : Cx) (e : Expr) (f : Gam → Option (Bool × Gam)) : Prop := PT X e (tTH X.K f)
abbrev PHA (X : Cx) (es : List Expr) (f : Gam → Option (List Dat × Gam)) : Prop := PA X es (tHA X.K f)
section
variable {X : Cx} {a b c e : Expr} {es : List Expr} {pos : Pos} {f : Rho → Option Dat} {ft : Rho → Option Bool} {ha hb h : HF} {hs : Gam → Option (List Dat × Gam)} {ht : Gam → Option (Bool × Gam)} {g1 g2 : Gam → Option Fl}
def hPure (f : Rho → Option Dat) : HF := fun Γ => match f (immV Γ) with
  | some d => some (d, Γ)
  | none => (f (allV Γ)).bind fun d => if scD d = true then some (d, Γ) else none
theorem ph_pure (hP : PF X e f) : PH X e (hPure f) := pe_mono hP fun σ H Q ⟨H₀, Av, pn, hid, Γ, ad, d, Γ', G, hf, q⟩ => by
  unfold hPure at hf
  split at hf
  · rename_i d' e1
    cases hf
    exact ⟨AvG Av Γ ad, immV Γ, _, G.avG, G.envI, e1, fun v H' s r => q v H' ad (G.grow s) r⟩
  · obtain ⟨d', e1, hf⟩ := bind_some hf
    split at hf
    · rename_i hs
      cases hf
      exact ⟨Av, allV Γ, _, G.avt.same G.same, G.envA, e1, fun v H' s r => q v H' ad (G.grow s) (r.sc hs)⟩
    · cases hf
def h2 (g : Dat → Dat → Option Dat) (fa fb : HF) : HF := fun Γ => (fa Γ).bind fun p => (fb p.2).bind fun r => (g p.1 r.1).map fun d => (d, r.2)
theorem tH_op {K : Fg} {r : R2} {g : Dat → Dat → Option Dat} (hr : OpD K r g) : ∀ σ H Q, tH K (h2 g ha hb) σ H Q → tOp r (tH K ha) (tH K hb) σ H Q := by
  rintro σ H Q ⟨H₀, Av, pn, hid, Γ, ad, d, Γ', G, hf, q⟩
  obtain ⟨⟨dx, Γ1⟩, e1, hf⟩ := bind_some hf
  obtain ⟨⟨dy, Γ2⟩, e2, hf⟩ := bind_some hf
  obtain ⟨d', e3, hf⟩ := map_some' hf
  cases hf
  refine ⟨H₀, Av, pn, hid, Γ, ad, dx, Γ1, G, e1, fun x H1 ad1 G1 r1 => ⟨H₀, Av, pn, (x, dx) :: hid, Γ1, ad1, dy, Γ2, G1.hide r1, e2, fun y H2 ad2 G2 r2 => ?_⟩⟩
  exact hr H2 (AvG Av Γ2 ad2) x y dx dy _ Q G2.avG (G2.hid (x, dx) List.mem_cons_self) r2 e3 fun v H3 s3 r3 => q v H3 ad2 (G2.unhide.grow s3) r3
theorem ph_bin {op : Operator} {r : R2} {g : Dat → Dat → Option Dat} (ho : OpR X (binaryOp op) r) (hd : OpD X.K r g) (pa : PH X a ha) (pb : PH X b hb) : PH X (.BinOp a op b pos) (h2 g ha hb) := pe_mono (pe_op ho pa pb) (tH_op hd)
def hTest (f : HF) : Gam → Option (Bool × Gam) := fun Γ => (f Γ).bind fun p => (asB p.1).map fun k => (k, p.2)
theorem pht_cmp {op : CmpOp} {r : R2} {g : Dat → Dat → Option Dat} (ho : OpR X (compareOp op) r) (hd : OpD X.K r g) (pa : PH X a ha) (pb : PH X b hb) (hm : behindInMarks op b = false) : PHT X (.Compare a [op] [b] pos) (hTest (h2 g ha hb)) := pt_mono (pt_cmpR ho pa pb hm) fun σ H Q ⟨H₀, Av, pn, hid, Γ, ad, d, Γ', G, hf, q⟩ => by
  obtain ⟨⟨dv, Γ1⟩, e1, hf⟩ := bind_some hf
  obtain ⟨k, e2, hf⟩ := map_some' hf
  cases hf
  have e3 := asB_some e2
  subst e3
  exact tH_op hd σ H _ ⟨H₀, Av, pn, hid, Γ, ad, _, Γ1, G, e1, fun v H' ad' G' r => ⟨_, r.b_inv, q H' ad' G'⟩⟩
theorem ph_add (pa : PH X a ha) (pb : PH X b hb) : PH X (.BinOp a .Add b pos) (h2 addD ha hb) := ph_bin (op_add.or op_add_str) (by
  intro H Av x y dx dy d Q hA rx ry h q
  unfold addD at h
  split at h
  · cases h
    exact .inl ⟨_, _, rx.i_inv, ry.i_inv, q _ H (Same.refl H) (.int _)⟩
  · split at h
    · rename_i hz
      cases h
      exact .inr ⟨_, _, rx.s_inv, ry.s_inv, hz, q _ H (Same.refl H) (.str _)⟩
    · cases h
  · cases h) pa pb
theorem ph_sub (pa : PH X a ha) (pb : PH X b hb) : PH X (.BinOp a .Sub b pos) (h2 subD ha hb) := ph_bin op_sub' opD_i pa pb
theorem ph_mul (pa : PH X a ha) (pb : PH X b hb) : PH X (.BinOp a .Mult b pos) (h2 mulD ha hb) := ph_bin op_mul' opD_i pa pb
theorem pht_gt (pa : PH X a ha) (pb : PH X b hb) : PHT X (.Compare a [.Gt] [b] pos) (hTest (h2 gtD ha hb)) := pht_cmp op_gt opD_b pa pb (nomark _)
theorem pht_eq {k : Nat} (hr : Room k X.A) (pa : PH X a ha) (pb : PH X b hb) : PHT X (.Compare a [.Eq] [b] pos) (hTest (h2 eqD ha hb)) := pht_cmp (op_eq.or (op_eqD hr.units)) opD_eq pa pb (nomark _)
theorem opD_ix {K : Fg} : OpD K (fun x y H Q => rIxL K x y H Q ∨ rIxT K x y H Q) ixD := by
  intro H Av x y dx dy d Q hA rx ry h q
  unfold ixD at h
  split at h
  · obtain ⟨p, xs, rfl, hq, rs⟩ := rx.l_inv
    obtain ⟨v, hv, rv⟩ := rs.atI h
    exact .inl ⟨p, xs, _, v, rfl, ry.i_inv, hq.sq, hv, q v H (Same.refl H) rv⟩
  · obtain ⟨p, xs, rfl, hq, rs⟩ := rx.t_inv
    obtain ⟨v, hv, rv⟩ := rs.atI h
    exact .inr ⟨p, xs, _, v, rfl, ry.i_inv, hq.sq, hv, q v H (Same.refl H) rv⟩
  · cases h
theorem ph_ix (pa : PH X a ha) (pb : PH X b hb) (hs : PlainIx b := by exact fun _ _ => rfl) : PH X (.Subscript a b pos) (h2 ixD ha hb) := pe_mono (pe_ix (ix_list.or ix_tup) pa pb hs) (tH_op opD_ix)
def hNil : Gam → Option (List Dat × Gam) := fun Γ => some ([], Γ)
def hCons (f : HF) (g : Gam → Option (List Dat × Gam)) : Gam → Option (List Dat × Gam) := fun Γ => (f Γ).bind fun p => (g p.2).map fun r => (p.1 :: r.1, r.2)
theorem pha_nil : PHA X [] hNil := pa_mono pa_nil fun σ H Q ⟨H₀, Av, pn, hid, Γ, ad, d, Γ', G, hf, q⟩ => by cases hf; exact q _ H ad G .nil
theorem pha_cons (pa : PH X e h) (pr : PHA X es hs) (hst : starEach (e :: es) X.env = (false, eval e X.env) :: starEach es X.env := by rfl) : PHA X (e :: es) (hCons h hs) := pa_mono (pa_cons pa pr hst) fun σ H Q ⟨H₀, Av, pn, hid, Γ, ad, d, Γ', G, hf, q⟩ => by
  obtain ⟨⟨dx, Γ1⟩, e1, hf⟩ := bind_some hf
  obtain ⟨⟨ds, Γ2⟩, e2, hf⟩ := map_some' hf
  cases hf
  exact ⟨H₀, Av, pn, hid, Γ, ad, dx, Γ1, G, e1, fun x H1 ad1 G1 r1 => ⟨H₀, Av, pn, (x, dx) :: hid, Γ1, ad1, ds, Γ2, G1.hide r1, e2, fun vs H2 ad2 G2 r2 => q (x :: vs) H2 ad2 G2.unhide (.cons (G2.hid (x, dx) List.mem_cons_self) r2)⟩⟩
def hTup (g : Gam → Option (List Dat × Gam)) : HF := fun Γ => (g Γ).bind fun p => if p.1.length ≤ sizeLine then some (.tuple p.1, p.2) else none
def hLst (g : Gam → Option (List Dat × Gam)) : HF := fun Γ => (g Γ).bind fun p => if p.1.length ≤ sizeLine then some (.list p.1, p.2) else none
theorem ph_tup (pa : PHA X es hs) {x1} : PH X (.Tuple es x1 pos) (hTup hs) := pe_mono (pe_tup pa) fun σ H Q ⟨H₀, Av, pn, hid, Γ, ad, d, Γ', G, hf, q⟩ => by
  obtain ⟨⟨ds, Γ1⟩, e1, hf⟩ := bind_some hf
  split at hf
  · rename_i hz
    cases hf
    exact ⟨H₀, Av, pn, hid, Γ, ad, ds, Γ1, G, e1, fun xs H1 ad1 G1 r1 => ⟨by rw [r1.length]; exact hz, fun p hp => q _ _ ad1 (G1.grow (same_new hp _)) (.newT G1.avG hp r1)⟩⟩
  · cases hf
theorem ph_lst (pa : PHA X es hs) : PH X (.List es pos) (hLst hs) := pe_mono (pe_lst pa) fun σ H Q ⟨H₀, Av, pn, hid, Γ, ad, d, Γ', G, hf, q⟩ => by
  obtain ⟨⟨ds, Γ1⟩, e1, hf⟩ := bind_some hf
  split at hf
  · rename_i hz
    cases hf
    exact ⟨H₀, Av, pn, hid, Γ, ad, ds, Γ1, G, e1, fun xs H1 ad1 G1 r1 => ⟨by rw [r1.length]; exact hz, fun p hp => q _ _ ad1 (G1.grow (same_new hp _)) (.newL G1.avG hp r1)⟩⟩
  · cases hf
def hCall (g : List Dat → Option Dat) (fs : Gam → Option (List Dat × Gam)) : HF := fun Γ => (fs Γ).bind fun p => (g p.1).map fun d => (d, p.2)
theorem tH_call {K : Fg} {r : List V → Hp → VK → Prop} {g : List Dat → Option Dat} (hr : CallD K r g) : ∀ σ H Q, tH K (hCall g hs) σ H Q → tCB r (tHA K hs) σ H Q := by
  rintro σ H Q ⟨H₀, Av, pn, hid, Γ, ad, d, Γ', G, hf, q⟩
  obtain ⟨⟨ds, Γ1⟩, e1, hf⟩ := bind_some hf
  obtain ⟨d', e2, hf⟩ := map_some' hf
  cases hf
  exact ⟨H₀, Av, pn, hid, Γ, ad, ds, Γ1, G, e1, fun xs H1 ad1 G1 r1 => hr H1 _ xs ds _ Q G1.avG r1 e2 fun v H2 s2 r2 => q v H2 ad1 (G1.grow s2) r2⟩
theorem ph_callTy {x : Str} {p : Pos} {T : String} {r : List V → Hp → VK → Prop} {g : List Dat → Option Dat} (hc : CallR X (.type T) r) (hd : CallD X.K r g) (hm : X.mg x = none) (pa : PHA X (e :: es) hs) (hg : Gl X x := by rfl) (hv : bootBuiltins x = some (.type T) := by rfl) (hn : x ≠ "__name__" := by decide) (hdb : (x == ("__debug__" : Str)) = false := by decide)
    (he : starEach (e :: es) X.env = (false, eval e X.env) :: starEach es X.env := by rfl) (hpl : (backTo pos (starEach es X.env)).any (·.1) = false := by rfl) : PH X (.Call (.Name x p) (e :: es) [] pos) (hCall g hs) := pe_mono (pe_callTy hc hg hm hv pa hn hdb he hpl) (tH_call hd)
def hFn (n : Nat) (F : List Dat → Option Dat) (fs : Gam → Option (List Dat × Gam)) : HF := fun Γ => (fs Γ).bind fun p => if p.1.length = n then (F p.1).map fun d => (d, p.2) else none
theorem ph_fn {x : Str} {p : Pos} {k n : Nat} {ps : List Str} {F : List Dat → Option Dat} (D : Dn X.prog X.w X.K X.mg X.base k x ps n F) (hr : Room k X.A) (pa : PHA X (e :: es) hs) (hg : Gl X x := by rfl) (hdb : (x == ("__debug__" : Str)) = false := by decide)
    (he : starEach (e :: es) X.env = (false, eval e X.env) :: starEach es X.env := by rfl) (hpl : (backTo pos (starEach es X.env)).any (·.1) = false := by rfl) : PH X (.Call (.Name x p) (e :: es) [] pos) (hFn n F hs) := by
  obtain ⟨f, fd, h1, h2, h3, h4⟩ := D.ex
  refine pe_mono (pe_call h1 hr hg h2 h3 h4 .nil pass0 pa hdb he hpl) fun σ H Q ⟨H₀, Av, pn, hid, Γ, ad, d, Γ', G, hf, q⟩ => ?_
  obtain ⟨⟨ds, Γ1⟩, e1, hf⟩ := bind_some hf
  split at hf
  · rename_i hl
    obtain ⟨d', e2, hf⟩ := map_some' hf
    cases hf
    exact ⟨H₀, Av, pn, hid, Γ, ad, ds, Γ1, G, e1, fun xs H1 ad1 G1 r1 => ⟨_, ds, _, G1.avG, by rw [List.append_nil]; exact r1, hl, e2, fun v H2 s2 r2 => q v H2 ad1 (G1.grow s2) r2⟩⟩
  · cases hf
def spM (K : Fg) (n : Nat) (F : List Dat → List Dat → Option (Dat × List Dat)) : Sp := fun vs H Q _ => ∃ Av a ws xs ds es d ds', vs = .ref a :: ws ∧ AvT H Av ∧ Av a ∧ H a = some (.lst xs) ∧ RepDs K H Av xs ds ∧ RepDs K H Av ws es ∧ es.length + 1 = n ∧ F ds es = some (d, ds') ∧
  ∀ v H' ys, (∀ b o, H b = some o → b ≠ a → H' b = some o) → H' a = some (.lst ys) → RepDs K H' Av ys ds' → RepD K H' Av v d → Q v H'
structure DnM (P : Program) (w : World) (K : Fg) (mg : Str → Option Value) (base : Heap) (k : Nat) (x : Str) (ps : List Str) (n : Nat) (F : List Dat → List Dat → Option (Dat × List Dat)) : Prop where
  ex : ∃ (f : Addr) (fd : FuncData), FnOk P w K mg base CX0 k f fd ps (spM K n F) ∧ mg x = some (.ref f) ∧ PySem.W.keepIn K (.ref f) = true ∧ Binds K fd ps []
theorem DnM.up {P : Program} {w : World} {K : Fg} {mg : Str → Option Value} {base : Heap} {j k : Nat} {x : Str} {ps : List Str} {n : Nat} {F : List Dat → List Dat → Option (Dat × List Dat)} (D : DnM P w K mg base j x ps n F) (h : j ≤ k) : DnM P w K mg base k x ps n F := by
  obtain ⟨f, fd, h1, h2⟩ := D.ex
  exact ⟨f, fd, h1.mono h, h2⟩
def hMut (i n : Nat) (F : List Dat → List Dat → Option (Dat × List Dat)) (fs : Gam → Option (List Dat × Gam)) : HF := fun Γ => match Γ[i]? with
  | some (some (.own _)) => (fs Γ).bind fun p => match p.2[i]? with
    | some (some (.own ds)) => if p.1.length + 1 = n then (F ds p.1).map fun r => (r.1, p.2.set i (some (.own r.2))) else none
    | _ => none
  | _ => none
theorem ph_mut (i : Nat) {x y : Str} {p p1 : Pos} {k n : Nat} {ps : List Str} {F : List Dat → List Dat → Option (Dat × List Dat)} (D : DnM X.prog X.w X.K X.mg X.base k x ps n F) (hr : Room k X.A) (pa : PHA X es hs)
    (hN : X.N[i]? = some y := by rfl) (hv : Vis X.env.scope y := by first | exact Or.inl rfl | exact Or.inr (Or.inl rfl) | exact Or.inr (Or.inr rfl)) (hd : (y == ("__debug__" : Str)) = false := by decide) (hcd : (y == ("__classdict__" : Str)) = false := by decide)
    (hg : Gl X x := by rfl) (hdb : (x == ("__debug__" : Str)) = false := by decide)
    (he : starEach (.Name y p1 :: es) X.env = (false, eval (.Name y p1) X.env) :: starEach es X.env := by rfl) (hpl : (backTo pos (starEach es X.env)).any (·.1) = false := by rfl) : PH X (.Call (.Name x p) (.Name y p1 :: es) [] pos) (hMut i n F hs) := by
  obtain ⟨f, fd, h1, h2, h3, h4⟩ := D.ex
  refine pe_mono (pe_call h1 hr hg h2 h3 h4 .nil pass0 (pa_cons (pe_var hN hv hd hcd) pa he) hdb he hpl) fun σ H Q ⟨H₀, Av, pn, hid, Γ, ad, d, Γ', G, hf, q⟩ => ?_
  unfold hMut at hf
  split at hf
  · rename_i ds0 hi0
    obtain ⟨⟨us, Γ1⟩, e1, hf⟩ := bind_some hf
    dsimp only at hf
    split at hf
    · rename_i ds hi1
      split at hf
      · rename_i hl
        obtain ⟨⟨d', ds'⟩, e2, hf⟩ := map_some' hf
        cases hf
        obtain ⟨xs0, g1, g2, g3, g4⟩ := G.own i ds0 hi0
        refine ⟨.ref (ad i), g1, H₀, Av, pn, hid, Γ, ad, us, Γ1, G, e1, fun ws H1 ad1 G1 r1 => ?_⟩
        obtain ⟨xs1, k1, k2, k3, k4⟩ := G1.own i ds hi1
        have ea : ad i = ad1 i := by rw [g1] at k1; injection k1 with k1; injection k1 with k1; injection k1
        exact ⟨AvG Av Γ1 ad1, ad1 i, ws, xs1, ds, us, _, _, by rw [List.append_nil, ea], G1.avG, .inr ⟨i, _, hi1, rfl, rfl⟩, k2, k3, r1, hl, e2, fun v H' ys k hn rl rv => q v H' ad1 (G1.lend hi1 k hn rl) (rv.weak (AvG.set_own hi1))⟩
      · cases hf
    · cases hf
  · cases hf
def startM (N : List Str) (ds es : List Dat) : Gam := some (.own ds) :: (es.map (fun d => some (.imm d)) ++ List.replicate (N.length - (es.length + 1)) none)
theorem ga_startM {K : Fg} {H : Hp} {Av : AvP} {N : List Str} {a : Addr} {xs ws : List V} {ds es : List Dat} (hA : AvT H Av) (ha : Av a) (hx : H a = some (.lst xs)) (rx : RepDs K H Av xs ds) (rw' : RepDs K H Av ws es) :
    GA K (fun b => if b = a then none else H b) (fun b => Av b ∧ b ≠ a) (some a) [] H (start N (.ref a :: ws)) (startM N ds es) (fun _ => a) := by
  have nomt : ∀ (i : Nat) (s : Slot), (startM N ds es)[i + 1]? = some (some s) → s.mt = false := fun i s h => by
    unfold startM at h
    rw [List.getElem?_cons_succ] at h
    by_cases hi : i < es.length
    · rw [List.getElem?_append_left (by rw [List.length_map]; exact hi), List.getElem?_map, List.getElem?_eq_getElem hi] at h
      cases h; rfl
    · rw [List.getElem?_append_right (by rw [List.length_map]; omega), List.getElem?_replicate] at h
      split at h <;> cases h
  have wk : ∀ b, AvG (fun b => Av b ∧ b ≠ a) (startM N ds es) (fun _ => a) b → Av b := by
    rintro b (z | ⟨i, fs, _, _, rfl⟩)
    · exact z.1
    · exact ha
  refine ⟨fun b o h => ?_, fun b z => ?_, ?_, fun i d h => ?_, fun i fs h => ?_, fun i j fs gs h1 h2 m1 m2 _ => ?_, fun p hp => absurd hp (by simp), (fun a' fs e _ => by cases e; rfl), fun i O fs h => ?_⟩
  · split at h
    · cases h
    · exact h
  · obtain ⟨o, e⟩ := hA b z.1
    exact ⟨o, by rw [if_neg z.2]; exact e⟩
  · unfold L2.start startM
    simp only [List.map_cons, List.cons_append, List.length_cons, List.length_append, List.length_map, List.length_replicate, rw'.length]
  · cases i with
    | zero => cases h
    | succ i =>
      unfold startM at h
      rw [List.getElem?_cons_succ] at h
      by_cases hi : i < es.length
      · rw [List.getElem?_append_left (by rw [List.length_map]; exact hi), List.getElem?_map, List.getElem?_eq_getElem hi] at h
        cases h
        obtain ⟨v, hv, rv⟩ := rw'.get (List.getElem?_eq_getElem hi)
        refine ⟨v, ?_, rv.weak wk⟩
        unfold L2.start
        rw [List.map_cons, List.cons_append, List.getElem?_cons_succ, List.getElem?_append_left (by rw [List.length_map, rw'.length]; exact hi), List.getElem?_map, hv]
        rfl
      · rw [List.getElem?_append_right (by rw [List.length_map]; omega), List.getElem?_replicate] at h
        split at h <;> cases h
  · cases i with
    | zero => cases h; exact ⟨xs, rfl, hx, rx.weak wk, by rw [if_pos rfl]⟩
    | succ i => exact absurd (nomt i _ h) (by simp [Slot.mt])
  · cases i with
    | succ i => exact absurd (nomt i _ h1) (by rw [m1]; decide)
    | zero =>
      cases j with
      | succ j => exact absurd (nomt j _ h2) (by rw [m2]; decide)
      | zero => rfl
  · cases i with
    | zero => cases h
    | succ i => exact absurd (nomt i _ h) (by simp [Slot.mt])
def runM (N : List Str) (g : Gam → Option Fl) (ds es : List Dat) : Option (Dat × List Dat) := match g (startM N ds es) with
  | some (.rm d Γ') => match (Γ'[0]? : Option (Option Slot)) with
    | some (some (.own ds')) => some (d, ds')
    | _ => none
  | _ => none
theorem dnM_of {P : Program} {w : World} {K : Fg} {mg : Str → Option Value} {base : Heap} {x qual : Str} {st : Stmt} {fa : Addr} {fd : FuncData} {N ps : List Str} {k n : Nat} {g : Gam → Option Fl} {F : List Dat → List Dat → Option (Dat × List Dat)}
    (U : Fun K x qual st fa fd) (hm : mg x = some (.ref fa)) (hB : Binds K fd ps []) (S : FnScope N ps (defScope st)) (hn : ps.length = n)
    (hbody : ∀ (cdv : Value) (A : Around) (outer : List Env) (s : Shared) (H : Hp) (E : XK), Room k (A.deeper (envOfC qual (defScope st) s.heap.objs.size fa cdv)) → PSFs (cxOf CX0 P w K mg base N qual (defScope st) fa cdv A outer s H E).nox (defBody st) g)
    (hF : ∀ ds es d ds', es.length + 1 = n → F ds es = some (d, ds') → runM N g ds es = some (d, ds')) : DnM P w K mg base (k + 1) x ps n F := by
  refine ⟨fa, fd, U.ok S (fun vs H Q E h => ?_) (fun cdv A outer s H vs Q E hr h => ?_), hm, U.kp, hB⟩
  · obtain ⟨Av, a, ws, xs, ds, es, d, ds', rfl, _, _, _, _, r, hl, _⟩ := h
    rw [List.length_cons, r.length, hl, hn]
  · obtain ⟨Av, a, ws, xs, ds, es, d, ds', rfl, hA, ha, hx, rx, rw', hl, hd, q⟩ := h
    have hd' := hF ds es d ds' hl hd
    unfold runM at hd'
    refine ⟨_, hbody cdv A outer s H E hr, ?_⟩
    split at hd'
    · rename_i d1 Γ1 hg
      split at hd'
      · rename_i ds1 h0
        cases hd'
        refine ⟨_, _, some a, [], startM N ds es, _, ⟨_, ga_startM hA ha hx rx rw'⟩, hg, fun σ' v H' ad' G' rv => ?_⟩
        obtain ⟨ys, y1, y2, y3, y4⟩ := G'.own 0 _ h0
        have ea : ad' 0 = a := G'.pin a _ rfl h0
        have wk : ∀ b, Av b → AvG (fun b => Av b ∧ b ≠ a) Γ1 ad' b := fun b z => by
          by_cases eb : b = a
          · exact .inr ⟨0, _, h0, rfl, ea.trans eb.symm⟩
          · exact .inl ⟨z, eb⟩
        exact q v H' ys (fun b o h ne => G'.same b o (by rw [if_neg ne]; exact h)) (by rw [← ea]; exact y2) (y3.weak wk) (rv.weak wk)
      · cases hd'
    · cases hd'
def sSetH (i : Nat) (f : HF) : Gam → Option Fl := fun Γ => (f Γ).map fun p => .nx (p.2.set i (some (.imm p.1)))
theorem psf_setH (i : Nat) {x : Str} {pos' : Pos} (hN : X.N.Nodup) (pe : PH X e h) (hi : X.N[i]? = some x := by rfl) (hx : Loc X.env.scope x := by first | exact .inl rfl | exact .inr rfl) (hs : swapsWith e (some (.Name x pos')) pos.line X.env = pure false := by rfl) (hf : X.fn x = true ∨ X.env.scope.names.lookup x = some .local := by first | exact .inl rfl | exact .inr rfl) :
    PSF X (.Assign [.Name x pos'] e pos) (sSetH i h) := ps_mono (ps_set hN hi hx pe hs hf) fun D σ H ⟨H₀, Av, pn, hid, Γ, fl, ⟨ad, G⟩, hf, q⟩ => by
  obtain ⟨⟨d, Γ1⟩, e1, hf⟩ := map_some' hf
  subst hf
  exact ⟨H₀, Av, pn, hid, Γ, ad, d, Γ1, G, e1, fun v H' ad' G' r => q _ _ ⟨ad', G'.set i r⟩⟩
def sAsgH (gt : Dat → Option Asg) (f : HF) : Gam → Option Fl := fun Γ => (f Γ).bind fun p => (gt p.1).map fun as => .nx (setG p.2 as)
theorem psf_asgH {tg : Expr} {gt : Dat → Option Asg} (pe : PH X e h) (hg : PG X tg (tGF X.K gt)) (hs : swapsWithSole [tg] e pos.line X.env = pure false := by rfl) (hw : swappedStores [tg] e X.env = pure none := by rfl)
    (h1 : (assignEach [tg] X.env).map (·.2) = [assign tg X.env] := by rfl) : PSF X (.Assign [tg] e pos) (sAsgH gt h) := ps_mono (ps_asg pe hg hs hw h1) fun D σ H ⟨H₀, Av, pn, hid, Γ, fl, ⟨ad, G⟩, hf, q⟩ => by
  obtain ⟨⟨d, Γ1⟩, e1, hf⟩ := bind_some hf
  obtain ⟨as, e2, hf⟩ := map_some' hf
  subst hf
  exact ⟨H₀, Av, pn, hid, Γ, ad, d, Γ1, G, e1, fun v H' ad' G' r => ⟨AvG Av Γ1 ad', d, as, r, e2, fun ws hw => q _ _ ⟨ad', GA.setAll hw (fun _ z => z) G'⟩⟩⟩
def sRetM (f : HF) : Gam → Option Fl := fun Γ => (f Γ).map fun p => .rm p.1 p.2
theorem psf_retM (pe : PH X e h) : PSF X (.Return (some e) pos) (sRetM h) := ps_mono (ps_ret pe) fun D σ H ⟨H₀, Av, pn, hid, Γ, fl, ⟨ad, G⟩, hf, q⟩ => by
  obtain ⟨⟨d, Γ1⟩, e1, hf⟩ := map_some' hf
  subst hf
  exact ⟨H₀, Av, pn, hid, Γ, ad, d, Γ1, G, e1, fun v H' ad' G' r => q σ v H' ad' G' r⟩
def sIfH (ft : Gam → Option (Bool × Gam)) (g1 g2 : Gam → Option Fl) : Gam → Option Fl := fun Γ => (ft Γ).bind fun p => if p.1 = true then g1 p.2 else g2 p.2
theorem psf_ifH {c : Expr} {a b : List Stmt} (hc : PHT X c ht) (pa : PSFs X a g1) (pb : PSFs X b g2) : PSF X (.If c a b pos) (sIfH ht g1 g2) := ps_mono (ps_if hc pa pb) fun D σ H ⟨H₀, Av, pn, hid, Γ, fl, ⟨ad, G⟩, hf, q⟩ => by
  obtain ⟨⟨k, Γ1⟩, e1, hf⟩ := bind_some hf
  refine ⟨H₀, Av, pn, hid, Γ, ad, k, Γ1, G, e1, fun H' ad' G' => ?_⟩
  cases k with
  | true => rw [if_pos rfl] at hf ⊢; exact ⟨H₀, Av, pn, hid, Γ1, fl, ⟨ad', G'⟩, hf, q⟩
  | false => rw [if_neg Bool.false_ne_true] at hf ⊢; exact ⟨H₀, Av, pn, hid, Γ1, fl, ⟨ad', G'⟩, hf, q⟩
theorem RepDs.set {K : Fg} {H : Hp} {Av : AvP} : ∀ {vs : List V} {ds : List Dat} {j : Nat} {v : V} {d : Dat}, RepDs K H Av vs ds → RepD K H Av v d → RepDs K H Av (vs.set j v) (ds.set j d)
  | _, _, _, _, _, .nil, _ => .nil
  | _, _, 0, _, _, .cons _ r, h => .cons h r
  | _, _, j + 1, _, _, .cons a r, h => .cons a (RepDs.set (j := j) r h)
def sSetIx (i : Nat) (k : Int) (f : HF) : Gam → Option Fl := fun Γ => (f Γ).bind fun p => match p.2[i]? with
  | some (some (.own ds)) => (ixN ds.length k).map fun j => .nx (p.2.set i (some (.own (ds.set j p.1))))
  | _ => none
theorem psf_setIx (i : Nat) {k : Int} {x : Str} {p1 p2 p3 : Pos} {j2 : Nat} (pe : PH X e h) (hN : X.N[i]? = some x := by rfl) (hv : Vis X.env.scope x := by first | exact Or.inl rfl | exact Or.inr (Or.inl rfl) | exact Or.inr (Or.inr rfl)) (hd : (x == ("__debug__" : Str)) = false := by decide) (hcd : (x == ("__classdict__" : Str)) = false := by decide)
    (ha : ∀ v, assign (.Subscript (.Name x p1) (.Constant (.int k) j2 p2) p3) X.env v = (do
      let ov ← holding [v] (eval (.Name x p1) X.env)
      let iv ← holding [v, ov] (eval (.Constant (.int k) j2 p2) X.env)
      standAt p3
      holding [v, ov, iv] (setItem ov iv v)
      release [v, ov, iv] []) := by intro _; rfl)
    (hs : swapsWithSole [.Subscript (.Name x p1) (.Constant (.int k) j2 p2) p3] e pos.line X.env = pure false := by rfl) (hw : swappedStores [.Subscript (.Name x p1) (.Constant (.int k) j2 p2) p3] e X.env = pure none := by rfl)
    (h1 : (assignEach [.Subscript (.Name x p1) (.Constant (.int k) j2 p2) p3] X.env).map (·.2) = [assign (.Subscript (.Name x p1) (.Constant (.int k) j2 p2) p3) X.env] := by rfl) :
    PSF X (.Assign [.Subscript (.Name x p1) (.Constant (.int k) j2 p2) p3] e pos) (sSetIx i k h) := ps_mono (ps_asg pe (pg_sub (pe_var hN hv hd hcd) pe_int set_list ha) hs hw h1) fun D σ H ⟨H₀, Av, pn, hid, Γ, fl, ⟨ad, G⟩, hf, q⟩ => by
  obtain ⟨⟨d, Γ1⟩, e1, hf⟩ := bind_some hf
  dsimp only at hf
  split at hf
  · rename_i ds hi
    obtain ⟨j, e2, hf⟩ := map_some' hf
    subst hf
    refine ⟨H₀, Av, pn, hid, Γ, ad, d, Γ1, G, e1, fun v H' ad' G' r => ?_⟩
    obtain ⟨xs, g1, g2, g3, g4⟩ := G'.own i ds hi
    exact ⟨_, g1, _, xs, k, j, rfl, rfl, g2, by rw [g3.length]; exact e2, q _ _ ⟨ad', G'.change hi (g3.set r)⟩⟩
  · cases hf
def spN (K : Fg) (n : Nat) (F : List Dat → Option (List Dat)) : Sp := fun vs H Q _ => ∃ Av ds out, AvT H Av ∧ RepDs K H Av vs ds ∧ ds.length = n ∧ F ds = some out ∧ ∀ H1 p xs, Same H H1 → H1 p = none → RepDs K H1 Av xs out → Q (.ref p) (upd H1 p (.lst xs))
structure DnN (P : Program) (w : World) (K : Fg) (mg : Str → Option Value) (base : Heap) (k : Nat) (x : Str) (ps : List Str) (n : Nat) (F : List Dat → Option (List Dat)) : Prop where
  ex : ∃ (f : Addr) (fd : FuncData), FnOk P w K mg base CX0 k f fd ps (spN K n F) ∧ mg x = some (.ref f) ∧ PySem.W.keepIn K (.ref f) = true ∧ Binds K fd ps []
theorem DnN.up {P : Program} {w : World} {K : Fg} {mg : Str → Option Value} {base : Heap} {j k : Nat} {x : Str} {ps : List Str} {n : Nat} {F : List Dat → Option (List Dat)} (D : DnN P w K mg base j x ps n F) (h : j ≤ k) : DnN P w K mg base k x ps n F := by
  obtain ⟨f, fd, h1, h2⟩ := D.ex
  exact ⟨f, fd, h1.mono h, h2⟩
def fNew (n : Nat) (F : List Dat → Option (List Dat)) (fs : Rho → Option (List Dat)) : Rho → Option (List Dat) := fun ρ => (fs ρ).bind fun ds => if ds.length = n then F ds else none
theorem pfl_new {x : Str} {p : Pos} {k n : Nat} {ps : List Str} {F : List Dat → Option (List Dat)} {fs : Rho → Option (List Dat)} (D : DnN X.prog X.w X.K X.mg X.base k x ps n F) (hr : Room k X.A) (pa : PFA X (e :: es) fs) (hg : Gl X x := by rfl) (hdb : (x == ("__debug__" : Str)) = false := by decide)
    (he : starEach (e :: es) X.env = (false, eval e X.env) :: starEach es X.env := by rfl) (hpl : (backTo pos (starEach es X.env)).any (·.1) = false := by rfl) : PE X (.Call (.Name x p) (e :: es) [] pos) (tFL X.K (fNew n F fs)) := by
  obtain ⟨f, fd, h1, h2, h3, h4⟩ := D.ex
  refine pe_mono (pe_call h1 hr hg h2 h3 h4 .nil pass0 pa hdb he hpl) fun σ H Q ⟨Av, ρ, out, hA, hE, hf, q⟩ => ?_
  obtain ⟨ds, e1, hf⟩ := bind_some hf
  split at hf
  · rename_i hl
    exact ⟨Av, ρ, ds, hA, hE, e1, fun xs H1 s1 r1 => ⟨Av, ds, out, hA.same s1, by rw [List.append_nil]; exact r1, hl, hf, fun H2 p xs s2 hp r2 => q H2 p xs (s1.trans s2) hp r2⟩⟩
  · cases hf
theorem dnN_of {P : Program} {w : World} {K : Fg} {mg : Str → Option Value} {base : Heap} {x qual : Str} {st : Stmt} {fa : Addr} {fd : FuncData} {N ps : List Str} {k n : Nat} {fs : Rho → Option (List Dat)} {F : List Dat → Option (List Dat)}
    (U : Fun K x qual st fa fd) (hm : mg x = some (.ref fa)) (hB : Binds K fd ps []) (S : FnScope N ps (defScope st)) (hn : ps.length = n) {ex : Expr} {px : Pos} (hb : defBody st = [.Return (some ex) px])
    (hbody : ∀ (cdv : Value) (A : Around) (outer : List Env) (s : Shared) (H : Hp) (E : XK), Room k (A.deeper (envOfC qual (defScope st) s.heap.objs.size fa cdv)) → PE (cxOf CX0 P w K mg base N qual (defScope st) fa cdv A outer s H E).nox ex (tFL K fs))
    (hF : ∀ ds out, ds.length = n → F ds = some out → fs (allV (startG N ds)) = some out) : DnN P w K mg base (k + 1) x ps n F := by
  have hpl : ps.length ≤ N.length := by have := congrArg List.length S.pre; rw [List.length_take] at this; omega
  refine ⟨fa, fd, U.ok S (fun vs H Q E h => ?_) (fun cdv A outer s H vs Q E hr h => ?_), hm, U.kp, hB⟩
  · obtain ⟨Av, ds, d, _, r, hl, _⟩ := h
    rw [r.length, hl, hn]
  · obtain ⟨Av, ds, out, hA, r, hl, hd, q⟩ := h
    obtain ⟨ad, G⟩ := ga_start (K := K) (N := N) hA r (by omega)
    rw [hb]
    exact ⟨_, pss_one (ps_ret (hbody cdv A outer s H E hr)), Av, allV (startG N ds), out, hA, G.envA, hF ds out hl hd, fun H1 p xs s1 hp r1 => q H1 p xs s1 hp r1⟩
end
end L3
namespace L3
open PySem PySem.Spec PyProof.Rows L2
open PySem.W (Dat kqdOk)
def OverS (K : Fg) (J : It) (xs : List V) (dxs : List Dat) (ds : List Dat) : Prop := ∀ (i : Nat) (H : Hp) (Av : AvP), RepDs K H Av xs dxs → (ds.length ≤ i → J.stop i H) ∧ (∀ di, ds[i]? = some di → J.go i H ∧ ∀ y H', AvT H Av → J.yld i H y H' → Same H H' ∧ RepD K H' Av y di)
theorem Over.s {K : Fg} {J : It} {x : V} {d : Dat} {ds : List Dat} (o : Over K J x d ds) : OverS K J [x] [d] ds := fun i H Av r => by
  obtain ⟨v, e, rv⟩ := r.one_inv
  cases e
  obtain ⟨h1, h2⟩ := o i H Av rv
  refine ⟨h1, fun di hd => ?_⟩
  obtain ⟨g, y⟩ := h2 di hd
  refine ⟨g, fun z H' _ hz => ?_⟩
  obtain ⟨e, r'⟩ := y z H' hz
  subst e
  exact ⟨Same.refl _, r'⟩
def tIF (K : Fg) (fi : Rho → Option (List Dat)) : TI := fun σ H R => ∃ Av ρ ds, AvT H Av ∧ REnv K H Av σ ρ ∧ fi ρ = some ds ∧ ∀ J xs dxs H1, Same H H1 → RepDs K H1 Av xs dxs → OverS K J xs dxs ds → R J H1
abbrev PIF (X : Cx) (tg iter : Expr) (fi : Rho → Option (List Dat)) : Prop := PI X tg iter (tIF X.K fi)
theorem pi_mono {X : Cx} {tg iter : Expr} {t t' : TI} (h : PI X tg iter t) (m : ∀ σ H R, t' σ H R → t σ H R) : PI X tg iter t' := fun pins s σ H R I q => h pins s σ H R I (m σ H R q)
section
variable {X : Cx} {tg iter a b c e : Expr} {pos : Pos} {f fa fb : Rho → Option Dat} {fs : Rho → Option (List Dat)} {fi : Rho → Option (List Dat)} {gt : Dat → Option Asg} {gb : Gam → Option Fl}
def iRng (rg : List Dat → Option (List Dat)) (fs : Rho → Option (List Dat)) : Rho → Option (List Dat) := fun ρ => (fs ρ).bind rg
theorem pif_range1 {p pos' : Pos} (hm : X.mg "range" = none) (ha : PFA X [a] fs) (hgl : Gl X "range" := by rfl) (hst : starEach [a] X.env = [(false, eval a X.env)] := by rfl) : PIF X tg (.Call (.Name "range" p) [a] [] pos') (iRng rng1 fs) := pi_mono (pi_range1 hgl hm ha hst) fun σ H R ⟨Av, ρ, ds, hA, hE, hf, q⟩ => by
  obtain ⟨as, e1, e2⟩ := bind_some hf
  refine ⟨Av, ρ, as, hA, hE, e1, fun vs H1 s1 r => ?_⟩
  unfold rng1 at e2
  split at e2
  · rename_i j
    split at e2
    · rename_i hj
      cases e2
      obtain ⟨v, rfl, rv⟩ := r.one_inv
      rw [rv.i_inv]
      exact ⟨j, rfl, hj.1, hj.2, q _ [.non] [.none] H1 s1 (.cons .non .nil) over_range.s⟩
    · cases e2
  · cases e2
def sForI (gt : Dat → Option Asg) (gb : Gam → Option Fl) (fi : Rho → Option (List Dat)) : Gam → Option Fl := fun Γ => (fi (immV Γ)).bind fun ds => forL gt gb ds Γ
theorem for_turnsS {K : Fg} {D : Ends} {H₀ : Hp} {Av : AvP} {pn : Option Addr} {hid : Hid} {xs : List V} {dxs ds : List Dat} {J : It} {σ : L2.St} {H1 : Hp} {Γ : Gam} {fl : Fl} {ad : Nat → Addr} (ov : OverS K J xs dxs ds)
    (G : GA K H₀ Av pn hid H1 σ Γ ad) (rx : RepDs K H1 (AvG Av Γ ad) xs dxs) (hf : forL gt gb ds Γ = some fl) (q : endF K H₀ Av pn hid D fl) :
    ∃ W : Nat → Nat → L2.St → Hp → Prop, (∃ m, W 0 m σ H1) ∧ ∀ i m σ H, W i m σ H →
      (J.stop i H ∧ D.nx σ H) ∨ (J.go i H ∧ ∃ N : L2.St → Hp → Prop, (∀ σ' H', N σ' H' → ∃ m', m' < m ∧ W (i + 1) m' σ' H') ∧ ∀ x H', J.yld i H x H' → tGF K gt x σ H' fun σ2 H2 => tSF K gb { D with nx := N, ct := N, bk := D.nx } σ2 H2) := by
  have hides : ∀ {vs : List V} {us : List Dat} {hid : Hid} {H : Hp} {σ : L2.St} {Γ : Gam} {ad : Nat → Addr}, GA K H₀ Av pn hid H σ Γ ad → RepDs K H (AvG Av Γ ad) vs us → GA K H₀ Av pn (vs.zip us ++ hid) H σ Γ ad := by
    intro vs us hid H σ Γ ad G r
    refine ⟨G.same, G.avt, G.len, G.imm, G.own, G.inj, fun p hp => ?_, G.pin, G.obj⟩
    rcases List.mem_append.mp hp with h | h
    · clear G hp
      induction vs generalizing us with
      | nil => simp at h
      | cons v vs ih =>
        cases r with
        | cons r1 r2 =>
          rw [List.zip_cons_cons] at h
          rcases List.mem_cons.mp h with e | h
          · subst e; exact r1
          · exact ih r2 h
    · exact G.hid p h
  have unhides : ∀ {vs : List V} {us : List Dat} {hid : Hid} {H : Hp} {σ : L2.St} {Γ : Gam} {ad : Nat → Addr}, GA K H₀ Av pn (vs.zip us ++ hid) H σ Γ ad → GA K H₀ Av pn hid H σ Γ ad := fun G => ⟨G.same, G.avt, G.len, G.imm, G.own, G.inj, fun p hp => G.hid p (List.mem_append_right _ hp), G.pin, G.obj⟩
  have back : ∀ {vs : List V} {us : List Dat} {hid : Hid} {H : Hp} {σ : L2.St} {Γ : Gam} {ad : Nat → Addr}, vs.length = us.length → GA K H₀ Av pn (vs.zip us ++ hid) H σ Γ ad → RepDs K H (AvG Av Γ ad) vs us := by
    intro vs us hid H σ Γ ad hl G
    have hp : ∀ p ∈ vs.zip us, RepD K H (AvG Av Γ ad) p.1 p.2 := fun p hp => G.hid p (List.mem_append_left _ hp)
    clear G
    induction vs generalizing us with
    | nil => cases us with | nil => exact .nil | cons _ _ => simp at hl
    | cons v vs ih =>
      cases us with
      | nil => simp at hl
      | cons u us =>
        rw [List.zip_cons_cons] at hp
        exact .cons (hp (v, u) List.mem_cons_self) (ih (by simpa using hl) fun p h => hp p (List.mem_cons_of_mem _ h))
  have hlx := rx.length
  refine ⟨fun i m σ H => m = ds.length - i ∧ i ≤ ds.length ∧ ∃ Γ, GEnv K H₀ Av pn (xs.zip dxs ++ hid) H σ Γ ∧ forL gt gb (ds.drop i) Γ = some fl, ⟨_, rfl, Nat.zero_le _, Γ, ⟨ad, hides G rx⟩, by rw [List.drop_zero]; exact hf⟩, ?_⟩
  rintro i m σ H ⟨rfl, hi, Γ, ⟨ad, G⟩, hf⟩
  have rx := back hlx G
  cases hdi : ds[i]? with
  | none =>
    have hl : ds.length ≤ i := List.getElem?_eq_none_iff.mp hdi
    rw [List.drop_eq_nil_of_le hl] at hf
    cases hf
    exact .inl ⟨(ov i H _ rx).1 hl, q σ H ⟨ad, unhides G⟩⟩
  | some di =>
    have hlt := get_lt hdi
    rw [drop_cons hdi] at hf
    obtain ⟨as, e1, hf⟩ := bind_some (show (gt di).bind _ = some fl from hf)
    obtain ⟨fl1, e2, hf⟩ := bind_some hf
    obtain ⟨go, yl⟩ := (ov i H _ rx).2 di hdi
    refine .inr ⟨go, fun σ' H' => ∃ Γ', GEnv K H₀ Av pn (xs.zip dxs ++ hid) H' σ' Γ' ∧ forL gt gb (ds.drop (i + 1)) Γ' = some fl, fun σ' H' ⟨Γ', G', h'⟩ => ⟨ds.length - (i + 1), by omega, rfl, by omega, Γ', G', h'⟩, fun y H' hy => ?_⟩
    obtain ⟨sH, ry⟩ := yl y H' G.avG hy
    refine ⟨AvG Av Γ ad, di, as, ry, e1, fun ws hw => ⟨H₀, Av, pn, xs.zip dxs ++ hid, setG Γ as, fl1, ⟨ad, GA.setAll hw (fun _ z => z) (G.grow sH)⟩, e2, ?_⟩⟩
    cases fl1 with
    | nx Γ' => exact fun σ2 H2 G2 => ⟨Γ', G2, hf⟩
    | ct Γ' => exact fun σ2 H2 G2 => ⟨Γ', G2, hf⟩
    | bk Γ' => cases hf; exact fun σ2 H2 ⟨ad2, G2⟩ => q σ2 H2 ⟨ad2, unhides G2⟩
    | rt v => cases hf; exact q
    | rm v Γ' => cases hf; exact fun σ2 v2 H2 ad2 G2 r2 => q σ2 v2 H2 ad2 (unhides G2) r2
theorem psf_forI {body : List Stmt} (hp : PassesOwn (model X.prog X.w) X.A X.env X.xe) (hc : X.calm = true) (hi : PIF X tg iter fi) (hg : PG X tg (tGF X.K gt)) (hb : PSFs X body gb)
    (hs : ∀ x, foldedSetIterable iter X.env x = pure x := by intro _; rfl) : PSF X (.For tg iter body [] pos) (sForI gt gb fi) := ps_mono (ps_for hp hc hi hg hb hs) fun D σ H ⟨H₀, Av, pn, hid, Γ, fl, ⟨ad, G⟩, hf, q⟩ => by
  obtain ⟨ds, e1, hf⟩ := bind_some hf
  exact ⟨AvG Av Γ ad, immV Γ, ds, G.avG, G.envI, e1, fun J xs dxs H1 s1 rx ov => for_turnsS ov (G.grow s1) rx hf q⟩
def fCompI (cap : List (Option Nat)) (gt : Dat → Option Asg) (ft : Rho → Option Bool) (fe : Rho → Option Dat) (fi : Rho → Option (List Dat)) : Rho → Option (List Dat) := fun ρ => (fi ρ).bind fun ds => if ds.length < sizeLine then compL gt ft fe (capR cap ρ) ds else none
theorem tComp_I {K : Fg} {cap : List (Option Nat)} {ft : Rho → Option Bool} {fe : Rho → Option Dat} (ht : TgOk gt cap) : ∀ σ H Q, tFL K (fCompI cap gt ft fe fi) σ H Q → tComp cap (tIF K fi) (tGF K gt) (tTF K ft) (tF K fe) σ H Q := by
  rintro σ H Q ⟨Av, ρ, out, hA, hE, hf, q⟩
  obtain ⟨ds, e1, hf⟩ := bind_some hf
  split at hf
  · rename_i hz
    refine ⟨Av, ρ, ds, hA, hE, e1, fun J xs dxs H1 s1 r ov => ?_⟩
    refine ⟨fun i m ys H2 => m = ds.length - i ∧ i ≤ ds.length ∧ Same H1 H2 ∧ ∃ o1 o2, RepDs K H2 Av ys o1 ∧ o1.length ≤ i ∧ compL gt ft fe (capR cap ρ) (ds.drop i) = some o2 ∧ out = o1 ++ o2,
      ⟨_, rfl, Nat.zero_le _, Same.refl _, [], out, .nil, Nat.le_refl _, by rw [List.drop_zero]; exact hf, rfl⟩, ?_⟩
    rintro i m ys H2 ⟨rfl, hi, s2, o1, o2, ro, hl, hc, rfl⟩
    refine ⟨by have := ro.length; omega, ?_⟩
    have rx := r.same s2
    cases hdi : ds[i]? with
    | none =>
      have hle : ds.length ≤ i := List.getElem?_eq_none_iff.mp hdi
      rw [List.drop_eq_nil_of_le hle] at hc
      cases hc
      refine .inl ⟨(ov i H2 _ rx).1 hle, fun D hD => q H2 D ys (s1.trans s2) hD (by rw [List.append_nil]; exact ro)⟩
    | some di =>
      have hlt := get_lt hdi
      rw [drop_cons hdi] at hc
      obtain ⟨as, a1, hc⟩ := bind_some (show (gt di).bind _ = some o2 from hc)
      obtain ⟨k, a2, hc⟩ := bind_some hc
      obtain ⟨go, yl⟩ := (ov i H2 _ rx).2 di hdi
      refine .inr ⟨go, fun y H' hy => ?_⟩
      obtain ⟨sH, ry⟩ := yl y H' (hA.same (s1.trans s2)) hy
      refine ⟨Av, di, as, ry, a1, fun ws hw => ?_⟩
      have cs : ∀ p ∈ as, (capV cap σ)[p.1]? = some none := fun p hp => by
        unfold capV
        rw [List.getElem?_map, ht di as a1 p hp]; rfl
      have A2 := hA.same (s1.trans (s2.trans sH))
      have E2 : REnv K H' Av (setV (capV cap σ) ws) (setR (capR cap ρ) as) := REnv.setAll hw (by unfold capV capR; rw [List.length_map, List.length_map]) ((hE.same (s1.trans (s2.trans sH))).cap cap)
      refine ⟨LeS.setAll hw cs (LeS.refl _), Av, _, k, A2, E2, a2, fun H3 s3 => ?_⟩
      cases k with
      | false =>
        rw [if_neg Bool.false_ne_true] at hc ⊢
        exact ⟨ds.length - (i + 1), by omega, rfl, by omega, s2.trans (sH.trans s3), o1, o2, ro.same (sH.trans s3), by omega, hc, rfl⟩
      | true =>
        rw [if_pos rfl] at hc ⊢
        obtain ⟨dv, a3, hc⟩ := bind_some hc
        obtain ⟨o3, a4, hc⟩ := map_some' hc
        subst hc
        refine ⟨Av, _, dv, A2.same s3, E2.same s3, a3, fun v H4 s4 rv => ⟨ds.length - (i + 1), by omega, rfl, by omega, s2.trans (sH.trans (s3.trans s4)), o1 ++ [dv], o3, (ro.same (sH.trans (s3.trans s4))).append (.cons rv .nil), ?_, a4, ?_⟩⟩
        · rw [List.length_append, List.length_singleton]; omega
        · rw [List.append_assoc]; rfl
  · cases hf
theorem pfl_compI {elt : Expr} {ifs : List Expr} {scope : Scope} {cl : List (Str × Addr)} {N' : List Str} {cap : List (Option Nat)} {ft : Rho → Option Bool} {fe : Rho → Option Dat}
    (hc : X.calm = true) (B : Blk X scope cl N' cap) (hi : PIF X tg iter fi) (hg : ∀ C s₀ H₀ ex, PG (blk X scope cl N' C s₀ H₀ ex) tg (tGF X.K gt)) (ht : ∀ C s₀ H₀ ex, PTs (blk X scope cl N' C s₀ H₀ ex) ifs (tTF X.K ft)) (he : ∀ C s₀ H₀ ex, PF (blk X scope cl N' C s₀ H₀ ex) elt fe) (hT : TgOk gt cap)
    (hs : ∀ x, foldedSetIterable iter X.env x = pure x := by intro _; rfl) : PE X (.ListComp elt [⟨tg, iter, ifs, 0⟩] scope pos) (tFL X.K (fCompI cap gt ft fe fi)) := pe_mono (pe_comp hc B hi hg ht he hs) (tComp_I hT)
def tHL (K : Fg) (f : Gam → Option (List Dat × Gam)) : TE := fun σ H Q => ∃ H₀ Av pn hid Γ ad d Γ', GA K H₀ Av pn hid H σ Γ ad ∧ f Γ = some (d, Γ') ∧ ∀ H1 p xs ad1, GA K H₀ Av pn hid H1 σ Γ' ad1 → H1 p = none → RepDs K H1 (AvG Av Γ' ad1) xs d → Q (.ref p) (upd H1 p (.lst xs))
def hL (f : Gam → Option (List Dat × Gam)) : HF := fun Γ => (f Γ).map fun p => (.list p.1, p.2)
theorem ph_of_l {hf : Gam → Option (List Dat × Gam)} (h : PE X e (tHL X.K hf)) : PH X e (hL hf) := pe_mono h fun σ H Q ⟨H₀, Av, pn, hid, Γ, ad, d, Γ', G, hf, q⟩ => by
  obtain ⟨⟨ds, Γ1⟩, e1, hf⟩ := map_some' hf
  cases hf
  exact ⟨H₀, Av, pn, hid, Γ, ad, ds, Γ1, G, e1, fun H1 p xs ad1 G1 hp r => q _ _ ad1 (G1.grow (same_new hp _)) (.newL G1.avG hp r)⟩
def immS : Rho → Gam := fun ρ => ρ.map fun o => o.map Slot.imm
def compH (gt : Dat → Option Asg) (fe : HF) (tl : Gam) : List Dat → List Dat → Option (List Dat × List Dat)
  | [], ds => some ([], ds)
  | x :: r, ds => (gt x).bind fun as => (fe (setG (some (.own ds) :: tl) as)).bind fun p => match (p.2[0]? : Option (Option Slot)) with
    | some (some (.own ds')) => (compH gt fe tl r ds').map fun q => (p.1 :: q.1, q.2)
    | _ => none
def hComp (i : Nat) (capt : List (Option Nat)) (gt : Dat → Option Asg) (fe : HF) (fi : Rho → Option (List Dat)) : Gam → Option (List Dat × Gam) := fun Γ => match Γ[i]? with
  | some (some (.own ds)) => (fi (immV Γ)).bind fun its => if its.length < sizeLine then (compH gt fe (immS (capR capt (immV Γ))) its ds).map fun q => (q.1, Γ.set i (some (.own q.2))) else none
  | _ => none
theorem immV_own {Γ : Gam} {i : Nat} {ds es : List Dat} (hi : Γ[i]? = some (some (.own ds))) : immV (Γ.set i (some (.own es))) = immV Γ := by
  unfold immV
  apply List.ext_getElem?
  intro j
  rw [List.getElem?_map, List.getElem?_map]
  by_cases e : j = i
  · subst e
    rw [List.getElem?_set_self (get_lt hi), hi]; rfl
  · rw [List.getElem?_set_ne (Ne.symm e)]
theorem immS_get {ρ : Rho} {j : Nat} {s : Slot} (h : (immS ρ)[j]? = some (some s)) : ∃ d, s = .imm d ∧ ρ[j]? = some (some d) := by
  unfold immS at h
  rw [List.getElem?_map] at h
  cases e : ρ[j]? with
  | none => rw [e] at h; cases h
  | some o =>
    rw [e] at h
    cases o with
    | none => cases h
    | some d => cases h; exact ⟨d, rfl, rfl⟩
theorem ga_block {K : Fg} {H : Hp} {Av : AvP} {a : Addr} {xs : List V} {ds : List Dat} {σt : L2.St} {ρt : Rho} (hA : AvT H Av) (ha : Av a) (hx : H a = some (.lst xs)) (rx : RepDs K H Av xs ds) (E : REnv K H Av σt ρt) (hl : σt.length = ρt.length) :
    GA K (fun b => if b = a then none else H b) (fun b => Av b ∧ b ≠ a) (some a) [] H (some (.ref a) :: σt) (some (.own ds) :: immS ρt) (fun _ => a) := by
  have wk : ∀ b, AvG (fun b => Av b ∧ b ≠ a) (some (.own ds) :: immS ρt) (fun _ => a) b → Av b := by
    rintro b (z | ⟨i, fs, _, _, rfl⟩)
    · exact z.1
    · exact ha
  refine ⟨fun b o h => ?_, fun b z => ?_, ?_, fun i d h => ?_, fun i fs h => ?_, fun i j fs gs h1 h2 m1 m2 _ => ?_, fun p hp => absurd hp (by simp), (fun a' fs e _ => by cases e; rfl), fun i O fs h => ?_⟩
  · split at h
    · cases h
    · exact h
  · obtain ⟨o, e⟩ := hA b z.1
    exact ⟨o, by rw [if_neg z.2]; exact e⟩
  · unfold immS
    rw [List.length_cons, List.length_cons, List.length_map, hl]
  · cases i with
    | zero => cases h
    | succ i =>
      rw [List.getElem?_cons_succ] at h
      obtain ⟨d', e, h⟩ := immS_get h
      cases e
      obtain ⟨v, hv, rv⟩ := E i d h
      exact ⟨v, by rw [List.getElem?_cons_succ]; exact hv, rv.weak wk⟩
  · cases i with
    | zero => cases h; exact ⟨xs, rfl, hx, rx.weak wk, by rw [if_pos rfl]⟩
    | succ i =>
      rw [List.getElem?_cons_succ] at h
      obtain ⟨_, e, _⟩ := immS_get h
      cases e
  · cases i with
    | succ i =>
      rw [List.getElem?_cons_succ] at h1
      obtain ⟨_, e, _⟩ := immS_get h1
      rw [e] at m1; cases m1
    | zero =>
      cases j with
      | succ j =>
        rw [List.getElem?_cons_succ] at h2
        obtain ⟨_, e, _⟩ := immS_get h2
        rw [e] at m2; cases m2
      | zero => rfl
  · cases i with
    | zero => cases h
    | succ i =>
      rw [List.getElem?_cons_succ] at h
      obtain ⟨_, e, _⟩ := immS_get h
      cases e
theorem GA.setAllW {K : Fg} {H₀ H : Hp} {Av AvX : AvP} {pn : Option Addr} {hid : Hid} {ad : Nat → Addr} {ws : List (Nat × V)} {as : Asg} {σ : L2.St} {Γ : Gam} (h : RepA K H AvX ws as) (hw : ∀ a, AvG Av Γ ad a → AvX a) (G : GA K H₀ Av pn hid H σ Γ ad) :
    GA K H₀ Av pn hid H (setV σ ws) (setG Γ as) ad := by
  induction h generalizing σ Γ with
  | nil => exact G
  | @cons i v d vs ds h r ih => exact ih (σ := σ.set i (some v)) (Γ := Γ.set i (some (.imm d))) (fun a z => hw a (AvG.set_imm a z)) (G.set i (h.weak hw))
theorem tComp_H {K : Fg} {i : Nat} {capt : List (Option Nat)} {fe : HF} (ht : TgOk gt (some i :: capt)) : ∀ σ H Q, tHL K (hComp i capt gt fe fi) σ H Q → tComp (some i :: capt) (tIF K fi) (tGF K gt) tYes (tH K fe) σ H Q := by
  rintro σ H Q ⟨H₀, Av, pn, hid, Γ, ad, out, Γ', G, hf, q⟩
  unfold hComp at hf
  split at hf
  · rename_i ds0 hi
    obtain ⟨its, e1, hf⟩ := bind_some hf
    split at hf
    · rename_i hz
      obtain ⟨⟨out', dsf⟩, e2, hf⟩ := map_some' hf
      obtain ⟨h1, h2⟩ := Prod.mk.inj hf
      subst h1 h2
      clear hf
      dsimp only at q
      refine ⟨AvG Av Γ ad, immV Γ, its, G.avG, G.envI, e1, fun J xs dxs H1 s1 rx ov => ?_⟩
      refine ⟨fun k m ys H2 => m = its.length - k ∧ k ≤ its.length ∧ ∃ ds2 o1 o2 df, GA K H₀ Av pn hid H2 σ (Γ.set i (some (.own ds2))) ad ∧ RepDs K H2 (AvG Av Γ ad) xs dxs ∧ RepDs K H2 (AvG Av Γ ad) ys o1 ∧ o1.length ≤ k ∧ compH gt fe (immS (capR capt (immV Γ))) (its.drop k) ds2 = some (o2, df) ∧ out' = o1 ++ o2 ∧ dsf = df,
        ⟨_, rfl, Nat.zero_le _, ds0, [], out', dsf, ?_, rx, .nil, Nat.le_refl _, by rw [List.drop_zero]; exact e2, rfl, rfl⟩, ?_⟩
      · have : Γ.set i (some (.own ds0)) = Γ := by
          apply List.ext_getElem?
          intro j
          by_cases e : j = i
          · subst e; rw [List.getElem?_set_self (get_lt hi), hi]
          · rw [List.getElem?_set_ne (Ne.symm e)]
        rw [this]
        exact G.grow s1
      rintro k m ys H2 ⟨rfl, hk, ds2, o1, o2, df, G2, rx, ro, hl, hc, rfl, rfl⟩
      have hi2 : (Γ.set i (some (Slot.own ds2)))[i]? = some (some (.own ds2)) := List.getElem?_set_self (get_lt hi)
      refine ⟨by have := ro.length; omega, ?_⟩
      have av2 : AvT H2 (AvG Av Γ ad) := fun b z => G2.avG b (AvG.of_set_own hi b z)
      cases hdi : its[k]? with
      | none =>
        have hle : its.length ≤ k := List.getElem?_eq_none_iff.mp hdi
        rw [List.drop_eq_nil_of_le hle] at hc
        cases hc
        refine .inl ⟨(ov k H2 _ rx).1 hle, fun D hD => q H2 D ys ad G2 hD ?_⟩
        rw [List.append_nil]
        exact ro.weak (AvG.set_own hi)
      | some di =>
        have hlt := get_lt hdi
        rw [drop_cons hdi] at hc
        obtain ⟨as, a1, hc⟩ := bind_some (show (gt di).bind _ = some (o2, dsf) from hc)
        obtain ⟨⟨dv, Γb⟩, a2, hc⟩ := bind_some hc
        dsimp only at hc
        split at hc
        · rename_i ds3 h0
          obtain ⟨⟨o3, df'⟩, a3, hc⟩ := map_some' hc
          cases hc
          obtain ⟨go, yl⟩ := (ov k H2 _ rx).2 di hdi
          refine .inr ⟨go, fun y H' hy => ?_⟩
          obtain ⟨sH, ry⟩ := yl y H' av2 hy
          refine ⟨AvG Av Γ ad, di, as, ry, a1, fun ws hw => ?_⟩
          have cs : ∀ p ∈ as, (capV (some i :: capt) σ)[p.1]? = some none := fun p hp => by
            unfold capV
            rw [List.getElem?_map, ht di as a1 p hp]; rfl
          have G3 := G2.grow sH
          obtain ⟨zs, g1, g2, g3, g4⟩ := G3.own i ds2 hi2
          have hcv : capV (some i :: capt) σ = some (.ref (ad i)) :: capV capt σ := by
            unfold capV
            rw [List.map_cons]
            show ((σ[i]?).join) :: _ = _
            rw [g1]; rfl
          have E3 : REnv K H' (AvG Av Γ ad) (capV capt σ) (capR capt (immV Γ)) := by
            have := G3.envI
            rw [immV_own hi] at this
            exact REnv.cap (fun j d h => let ⟨v, e, r⟩ := this j d h; ⟨v, e, r.weak (AvG.of_set_own hi)⟩) capt
          have av3 : AvT H' (AvG Av Γ ad) := fun b z => G3.avG b (AvG.of_set_own hi b z)
          have Gb := ga_block (K := K) (a := ad i) av3 (.inr ⟨i, _, hi, rfl, rfl⟩) g2 (g3.weak (AvG.of_set_own hi)) E3 (by unfold capV capR; rw [List.length_map, List.length_map])
          have wkb : ∀ b, AvG (fun b => AvG Av Γ ad b ∧ b ≠ ad i) (some (.own ds2) :: immS (capR capt (immV Γ))) (fun _ => ad i) b → AvG Av Γ ad b := by
            rintro b (z | ⟨_, _, _, _, rfl⟩)
            · exact z.1
            · exact .inr ⟨i, _, hi, rfl, rfl⟩
          rw [hcv]
          rw [hcv] at cs
          refine ⟨LeS.setAll hw cs (LeS.refl _), ?_⟩
          simp only [tYes, if_true]
          refine ⟨_, _, some (ad i), [], _, _, dv, Γb, GA.setAllW hw wkb Gb, a2, fun v H4 ad4 G4 r4 => ?_⟩
          obtain ⟨us, u1, u2, u3, u4⟩ := G4.own 0 ds3 h0
          have ea : ad4 0 = ad i := G4.pin _ _ rfl h0
          have wk4 : ∀ b, AvG Av Γ ad b → AvG (fun b => AvG Av Γ ad b ∧ b ≠ ad i) Γb ad4 b := fun b z => by
            by_cases eb : b = ad i
            · exact .inr ⟨0, _, h0, rfl, ea.trans eb.symm⟩
            · exact .inl ⟨z, eb⟩
          have kk : ∀ b o, H' b = some o → b ≠ ad i → H4 b = some o := fun b o h ne => G4.same b o (by rw [if_neg ne]; exact h)
          have kp : Keep H' (AvG Av Γ ad) H4 (AvG Av Γ ad) := fun b o h n => ⟨kk b o h fun z => n (.inr ⟨i, _, hi, rfl, z.symm⟩), n⟩
          have G5 := G3.lend (es := ds3) hi2 kk (by rw [← ea]; exact u2) (u3.weak fun b z => wk4 b (AvG.set_own (es := ds2) hi b z))
          rw [List.set_set] at G5
          refine ⟨its.length - (k + 1), by omega, rfl, by omega, ds3, o1 ++ [dv], o3, df', G5, (rx.same sH).mono kp, ((ro.same sH).mono kp).append (.cons (r4.weak wk4) .nil), ?_, a3, ?_, rfl⟩
          · rw [List.length_append, List.length_singleton]; omega
          · rw [List.append_assoc]; rfl
        · cases hc
    · cases hf
  · cases hf
theorem phl_comp (i : Nat) {elt : Expr} {scope : Scope} {cl : List (Str × Addr)} {N' : List Str} {capt : List (Option Nat)} {fe : HF}
    (hc : X.calm = true) (B : Blk X scope cl N' (some i :: capt)) (hi : PIF X tg iter fi) (hg : ∀ C s₀ H₀ ex, PG (blk X scope cl N' C s₀ H₀ ex) tg (tGF X.K gt)) (he : ∀ C s₀ H₀ ex, PH (blk X scope cl N' C s₀ H₀ ex) elt fe) (hT : TgOk gt (some i :: capt))
    (hs : ∀ x, foldedSetIterable iter X.env x = pure x := by intro _; rfl) : PE X (.ListComp elt [⟨tg, iter, [], 0⟩] scope pos) (tHL X.K (hComp i capt gt fe fi)) := pe_mono (pe_comp hc B hi hg (fun _ _ _ _ => pts_nil) he hs) (tComp_H hT)
theorem blk_capR {scope : Scope} {tn fv : List Str} {js : List Nat} (hcl : closureFor scope X.env = pure (fv.map fun x => (x, (X.env.cells.lookup x).getD 0)))
    (hf : ∀ y ∈ scope.names, y.2 = .free → y.1 ∈ fv) (hc : ∀ y ∈ scope.names, y.2 ≠ .cell) (hk : scope.kind = .function) (hn : ∀ y ∈ scope.names, y.2 = .local → scope.names.lookup y.1 = some .local) (nd : (tn ++ fv).Nodup)
    (hl : fv.length = js.length) (hs : ∀ x ∈ fv, ∃ c, X.env.cells.lookup x = some c)
    (hj : ∀ p ∈ fv.zip js, X.N[p.2]? = some p.1 ∧ Vis X.env.scope p.1 ∧ ((relabel scope X.env).names.lookup p.1 = some .cell ∨ (relabel scope X.env).names.lookup p.1 = some .free) ∧ X.env.scope.names.lookup p.1 ≠ some .local) :
    Blk X scope (fv.map fun x => (x, (X.env.cells.lookup x).getD 0)) (fv ++ tn) (js.map some ++ (tn.map fun _ => none)) := by
  have B := blk_cap (X := X) (tn := tn) (js := js) hcl hf hc hk hn nd hl hs hj
  refine ⟨B.clos, B.cells, B.kind, B.names, ?_, by rw [List.length_append, List.length_append, List.length_map, List.length_map, hl], B.sub, B.has, fun i x j e1 e2 => ?_⟩
  · exact (List.perm_append_comm (l₁ := tn) (l₂ := fv)).nodup_iff.mp nd
  · by_cases hi : i < fv.length
    · rw [List.getElem?_append_left hi] at e1
      rw [List.getElem?_append_left (by rw [List.length_map, ← hl]; exact hi), List.getElem?_map] at e2
      cases ej : js[i]? with
      | none => rw [ej] at e2; cases e2
      | some j' =>
        rw [ej] at e2
        cases e2
        refine hj (x, j) (List.mem_of_getElem? (i := i) ?_)
        rw [List.getElem?_zip_eq_some]; exact ⟨e1, ej⟩
    · rw [List.getElem?_append_right (by rw [List.length_map, ← hl]; omega), List.getElem?_map] at e2
      cases ej : tn[i - (js.map some).length]? with
      | none => rw [ej] at e2; cases e2
      | some j' => rw [ej] at e2; cases e2
end
end L3
set_option maxHeartbeats 4000000
namespace L3
open PySem PySem.Spec PyProof.Rows L2
open PySem.W (Dat kqdOk)
def SqK : Bool → Heap → Addr → Array Value → Prop
  | true, h, a, its => h.IsList a its
  | false, h, a, its => h.IsTuple a its
def ItK : Bool → Heap → Addr → Addr → Nat → Prop
  | true, h, it, a, i => h.IsListIter it a i
  | false, h, it, a, i => h.IsTupleIter it a i
theorem SqK.on {k : Bool} {h h' : Heap} {a : Addr} {its : Array Value} (x : SqK k h a its) (e : ∀ o, h.get? a = some o → h'.get? a = some o) : SqK k h' a its := by
  cases k <;> exact let ⟨o, ho, r⟩ := x; ⟨o, e o ho, r⟩
theorem ItK.on {k : Bool} {h h' : Heap} {it a : Addr} {i : Nat} (x : ItK k h it a i) (e : ∀ o, h.get? it = some o → h'.get? it = some o) : ItK k h' it a i := by
  cases k <;> exact let ⟨o, ho, r⟩ := x; ⟨o, e o ho, r⟩
theorem ItK.obj {k : Bool} {h : Heap} {it a : Addr} {i : Nat} (x : ItK k h it a i) : ∃ o, h.get? it = some o ∧ ∀ v, o.data ≠ .cell v := by
  cases k <;> exact let ⟨o, ho, _, hd⟩ := x; ⟨o, ho, fun v z => by rw [hd] at z; cases z⟩
theorem SqK.obj {k : Bool} {h : Heap} {a : Addr} {its : Array Value} (x : SqK k h a its) : ∃ o, h.get? a = some o := by
  cases k <;> exact let ⟨o, ho, _⟩ := x; ⟨o, ho⟩
section
variable {prog : Program} {w : World} {A : Around} {E : Value → Shared → Prop} {s : Shared}
theorem drawK {k : Bool} {ii la : Addr} {i : Nat} {its : Array Value} {x : Value} {Q : Value → Shared → Prop} (hit : ItK k s.heap ii la i) (hq : SqK k s.heap la its) (hx : its[i]? = some x)
    (hQ : ∀ h', ItK k h' ii la (i + 1) → Heap.SameBut ii s.heap h' → Q x { s with heap := h' }) : wpAny (model prog w) A (Builtin.SmallTypes.nextOf (.ref ii)) Q E s := by
  cases k with
  | true => exact wpAny_nextOf_list_item hit hq hx hQ
  | false =>
    have hit' : s.heap.IsTupleIter ii la i := hit
    obtain ⟨oi, pi, ci, di⟩ := id hit'
    obtain ⟨oa, pa, _, na, da⟩ := (show s.heap.IsTuple la its from hq)
    unfold Builtin.SmallTypes.nextOf; refine wpAny_bind (wpAny_callSpecial?_slot (name := Str.ofString "__next__") hit'.typeIs F.slot_tuple_iterator_next (wpAny_call_entry F.slot_tuple_iterator_next hit'.typeIs F.entry_tuple_iterator_next ?_ (F.args_tuple_iterator_next_1 _)))
    show wpAny _ _ (field (.ref ii) 0 >>= _) _ _ s
    refine wpAny_bind (wpAny_field pi di (x := .ref la) rfl ?_)
    show wpAny _ _ (if (Value.ref la == Value.none) = true then _ else _) _ _ s
    rw [if_neg (show ¬ ((Value.ref la == Value.none) = true) from Bool.false_ne_true)]
    show wpAny _ _ (field (.ref ii) 1 >>= _) _ _ s
    refine wpAny_bind (wpAny_field pi di (x := .int i 0) rfl ?_)
    show wpAny _ _ (seqItems? (.ref la) >>= _) _ _ s
    refine wpAny_bind (wpAny_seqItems pa da ?_)
    simp only [hx, Int.toNat_natCast]
    exact wpAny_bind (wpAny_setField pi di (by simp) (wpAny_pure ⟨x, rfl, wpAny_pure (hQ _ ⟨_, Heap.get?_update_self _ pi (Obj.isFreed_of_fields (Obj.data_mapFields di _)), (Obj.cls_mapFields ..).trans ci, by rw [Obj.data_mapFields di]; simp [rawInt]⟩ (Heap.SameBut.update ..))⟩))
theorem drawK_end {k : Bool} {ii la : Addr} {i : Nat} {its : Array Value} {Q : Value → Shared → Prop} (hh : A.handled = none) (hit : ItK k s.heap ii la i) (hq : SqK k s.heap la its) (hx : its[i]? = none)
    (hE : ∀ h' e, Heap.ExtBut ii s.heap h' → (∃ o, h'.get? e = some o ∧ o.cls = .type "StopIteration") → E (.ref e) { s with heap := h' }) : wpAny (model prog w) A (Builtin.SmallTypes.nextOf (.ref ii)) Q E s := by
  cases k with
  | true => exact wpAny_nextOf_list_end hh hit hq hx hE
  | false =>
    have hit' : s.heap.IsTupleIter ii la i := hit
    obtain ⟨oi, pi, ci, di⟩ := id hit'
    obtain ⟨oa, pa, _, na, da⟩ := (show s.heap.IsTuple la its from hq)
    unfold Builtin.SmallTypes.nextOf; refine wpAny_bind (wpAny_callSpecial?_slot (name := Str.ofString "__next__") hit'.typeIs F.slot_tuple_iterator_next (wpAny_call_entry F.slot_tuple_iterator_next hit'.typeIs F.entry_tuple_iterator_next ?_ (F.args_tuple_iterator_next_1 _)))
    show wpAny _ _ (field (.ref ii) 0 >>= _) _ _ s
    refine wpAny_bind (wpAny_field pi di (x := .ref la) rfl ?_)
    show wpAny _ _ (if (Value.ref la == Value.none) = true then _ else _) _ _ s
    rw [if_neg (show ¬ ((Value.ref la == Value.none) = true) from Bool.false_ne_true)]
    show wpAny _ _ (field (.ref ii) 1 >>= _) _ _ s
    refine wpAny_bind (wpAny_field pi di (x := .int i 0) rfl ?_)
    show wpAny _ _ (seqItems? (.ref la) >>= _) _ _ s
    refine wpAny_bind (wpAny_seqItems pa da ?_)
    simp only [hx, Int.toNat_natCast]
    refine wpAny_bind (wpAny_rule (wpAny_bind (wpAny_setField pi di (by simp) (?_ : wpAny _ _ (newExc (.type "StopIteration") [] >>= _) _ _ _))))
    refine wpAny_bind (by
      simp only [newExc, newTuple]
      exact wpAny_bind (wpAny_newObj_type (wpAny_bind (m := firstArgMember _ _) (wpAny_of_eq (a := Value.none) (by first | rfl | (simp only [firstArgMember]; rfl)) (wpAny_newObj_type (by
        simp only [raiseNew]
        exact wpAny_bind (wpAny_handled (by
          (first | rw [show A.in1.handled = none from hh] | rw [hh])
          exact wpAny_bind (wpAny_pure (wpAny_throw (hE _ _ (((Heap.SameBut.update ..).extBut.push _).push _) ⟨_, Heap.get?_push_size _ rfl, rfl⟩)))))) (by size_fits)))) (by size_fits)))
abbrev ZSt (h : Heap) (z TI TO i1 i2 : Addr) (f0 : Value) (x y : Value) : Prop := IsZip h z TI TO f0 ∧ IsPair h TI (.ref i1) (.ref i2) ∧ IsPair h TO x y
theorem zipK_next {k1 k2 : Bool} {z TI TO i1 i2 l1 l2 : Addr} {n1 n2 : Nat} {xs ys : Array Value} {x y a b : Value} {Q : Value → Shared → Prop} (D : ZipApart z TI TO i1 i2 l1 l2) (Z : ZSt s.heap z TI TO i1 i2 .none a b)
    (w1 : ItK k1 s.heap i1 l1 n1) (w2 : ItK k2 s.heap i2 l2 n2) (q1 : SqK k1 s.heap l1 xs) (q2 : SqK k2 s.heap l2 ys) (hx : xs[n1]? = some x) (hy : ys[n2]? = some y)
    (hQ : ∀ h', IsZip h' z TI TO (rawInt s.heap.objs.size) → IsPair h' TO x y → ItK k1 h' i1 l1 (n1 + 1) → ItK k2 h' i2 l2 (n2 + 1) → IsPair h' s.heap.objs.size x y →
      (∀ c o, c ≠ z → c ≠ TO → c ≠ i1 → c ≠ i2 → s.heap.get? c = some o → h'.get? c = some o) → Q (.ref s.heap.objs.size) { s with heap := h' }) :
    wpAny (model prog w) A (Builtin.«zip.__next__» ⟨[.ref z], []⟩) (fun fin s' => ∃ v, fin = .done (.ret v) ∧ Q v s') E s := by
  obtain ⟨Zz, ZI, ZO⟩ := Z
  refine (?_ : wpAny _ _ (field (.ref z) 2 >>= _) _ _ _)
  refine wpAny_bind (wpAny_field Zz rfl (x := .bool false) rfl (?_ : wpAny _ _ (field (.ref z) 3 >>= _) _ _ _))
  refine wpAny_bind (wpAny_field Zz rfl (x := .ref TI) rfl (wpAny_bind (wpAny_seqItems ZI rfl ?_)))
  refine (?_ : wpAny _ _ (Builtin.SmallTypes.ownedTupleIsFree (.ref z) >>= _) _ _ _)
  refine wpAny_bind (by
    unfold Builtin.SmallTypes.ownedTupleIsFree
    exact wpAny_bind (wpAny_field Zz rfl (x := .none) rfl (wpAny_pure (by
      simp only [if_true]
      refine wpAny_bind (wpAny_rule (wpAny_bind (wpAny_field Zz rfl (x := .ref TO) rfl (wpAny_bind (wpAny_setField_rec Zz (by simp) fun g1 z1 m1 => ?_)))))
      have zz1 : IsZip g1 z TI TO .ellipsis := z1
      refine wpAny_bind ?_
      simp only [List.forIn_cons, List.forIn_nil, List.zipIdx_cons, List.zipIdx_nil]
      refine wpAny_bind (wpAny_bind (wpAny_onRaise (?_ : wpAny _ _ (Builtin.SmallTypes.nextOf (.ref i1) >>= _) _ _ _)))
      refine wpAny_bind (drawK (w1.on fun o e => m1.extBut _ _ D.i1z e) (q1.on fun o e => m1.extBut _ _ D.l1z e) hx fun g2 v2 m2 => wpAny_pure ?_)
      have o2 : IsPair g2 TO a b := m2.extBut _ _ D.TOi1 (m1.extBut _ _ D.TOz ZO)
      refine wpAny_bind (wpAny_seqItems o2 rfl (wpAny_bind (wpAny_updateSeq_pair o2 fun g3 p3 m3 => wpAny_bind (wpAny_letGo (wpAny_pure ?_)))))
      have o3 : IsPair g3 TO x b := p3
      refine wpAny_bind (wpAny_bind (wpAny_onRaise (?_ : wpAny _ _ (Builtin.SmallTypes.nextOf (.ref i2) >>= _) _ _ _)))
      refine wpAny_bind (drawK (w2.on fun o e => m3.extBut _ _ D.TOi2.symm (m2.extBut _ _ D.i12.symm (m1.extBut _ _ D.i2z e))) (q2.on fun o e => m3.extBut _ _ D.l2TO (m2.extBut _ _ D.l2i1 (m1.extBut _ _ D.l2z e))) hy fun g4 v4 m4 => wpAny_pure ?_)
      have o4 : IsPair g4 TO x b := m4.extBut _ _ D.TOi2 o3
      refine wpAny_bind (wpAny_seqItems o4 rfl (wpAny_bind (wpAny_updateSeq_pair o4 fun g5 p5 m5 => wpAny_bind (wpAny_letGo (wpAny_pure (wpAny_pure ?_))))))
      have o5 : IsPair g5 TO x y := p5
      refine wpAny_bind (wpAny_seqItems o5 rfl (wpAny_bind (wpAny_newTuple ?_)))
      have sz : g5.objs.size = s.heap.objs.size := by rw [m5.1, m4.1, m3.1, m2.1, m1.1]
      have z5 : IsZip g5 z TI TO .ellipsis := m5.extBut _ _ D.TOz.symm (m4.extBut _ _ D.i2z.symm (m3.extBut _ _ D.TOz.symm (m2.extBut _ _ D.i1z.symm zz1)))
      have k5 : ∀ c o, c ≠ z → c ≠ TO → c ≠ i1 → c ≠ i2 → s.heap.get? c = some o → g5.get? c = some o := fun c o a1 a2 a3 a4 e => m5.extBut _ _ a2 (m4.extBut _ _ a4 (m3.extBut _ _ a2 (m2.extBut _ _ a3 (m1.extBut _ _ a1 e))))
      have v5 : ItK k1 g5 i1 l1 (n1 + 1) := v2.on fun o e => m5.extBut _ _ D.TOi1.symm (m4.extBut _ _ D.i12 (m3.extBut _ _ D.TOi1.symm e))
      have v6 : ItK k2 g5 i2 l2 (n2 + 1) := v4.on fun o e => m5.extBut _ _ D.TOi2.symm e
      have zl : z < g5.objs.size := Heap.lt_size z5
      refine (?_ : wpAny _ _ (Builtin.SmallTypes.ownedTupleHandOut (.ref z) (.ref g5.objs.size) >>= _) _ _ _)
      refine wpAny_bind (by
        unfold Builtin.SmallTypes.ownedTupleHandOut
        have z6 : IsZip (g5.push { cls := .type "tuple", data := .seq #[x, y] }) z TI TO .ellipsis := Heap.get?_push_of_some _ z5
        refine wpAny_bind (wpAny_setField_rec z6 (by simp) fun g7 z7 m7 => ?_)
        have z7' : IsZip g7 z TI TO (rawInt g5.objs.size) := z7
        refine wpAny_setField_rec z7' (by simp) fun g8 z8 m8 => ?_
        have z8' : IsZip g8 z TI TO (rawInt g5.objs.size) := z8
        have up : ∀ c o, c ≠ z → g5.get? c = some o → g8.get? c = some o := fun c o c1 e => m8.extBut _ _ c1 (m7.extBut _ _ c1 (Heap.get?_push_of_some _ e))
        have t8 : IsPair g8 g5.objs.size x y := m8.extBut _ _ (Nat.ne_of_gt zl) (m7.extBut _ _ (Nat.ne_of_gt zl) (Heap.get?_push_size _ rfl))
        rw [sz] at z8' t8
        refine wpAny_pure ⟨_, rfl, (?_ : Q (.ref g5.objs.size) _)⟩
        rw [sz]
        exact hQ g8 z8' (up _ _ D.TOz o5) (v5.on fun o e => up _ o D.i1z e) (v6.on fun o e => up _ o D.i2z e) t8 fun c o c1 c2 c3 c4 e => up c o c1 (k5 c o c1 c2 c3 c4 e)))))
    )
theorem zipK_stop {k1 k2 : Bool} {z TI TO i1 i2 l1 l2 : Addr} {n1 n2 : Nat} {xs ys : Array Value} {a b : Value} {Q : Fin → Shared → Prop} (hh : A.handled = none) (D : ZipApart z TI TO i1 i2 l1 l2) (Z : ZSt s.heap z TI TO i1 i2 .none a b)
    (w1 : ItK k1 s.heap i1 l1 n1) (w2 : ItK k2 s.heap i2 l2 n2) (q1 : SqK k1 s.heap l1 xs) (q2 : SqK k2 s.heap l2 ys) (hend : xs[n1]? = none ∨ ys[n2]? = none)
    (hE : ∀ h' e, (∀ c o, c ≠ z → c ≠ TO → c ≠ i1 → c ≠ i2 → s.heap.get? c = some o → h'.get? c = some o) → (∃ o, h'.get? e = some o ∧ o.cls = .type "StopIteration") → E (.ref e) { s with heap := h' }) :
    wpAny (model prog w) A (Builtin.«zip.__next__» ⟨[.ref z], []⟩) Q E s := by
  obtain ⟨Zz, ZI, ZO⟩ := Z
  refine (?_ : wpAny _ _ (field (.ref z) 2 >>= _) _ _ _)
  refine wpAny_bind (wpAny_field Zz rfl (x := .bool false) rfl (?_ : wpAny _ _ (field (.ref z) 3 >>= _) _ _ _))
  refine wpAny_bind (wpAny_field Zz rfl (x := .ref TI) rfl (wpAny_bind (wpAny_seqItems ZI rfl ?_)))
  refine (?_ : wpAny _ _ (Builtin.SmallTypes.ownedTupleIsFree (.ref z) >>= _) _ _ _)
  refine wpAny_bind (by
    unfold Builtin.SmallTypes.ownedTupleIsFree
    exact wpAny_bind (wpAny_field Zz rfl (x := .none) rfl (wpAny_pure (by
      simp only [if_true]
      refine wpAny_bind (wpAny_rule (wpAny_bind (wpAny_field Zz rfl (x := .ref TO) rfl (wpAny_bind (wpAny_setField_rec Zz (by simp) fun g1 z1 m1 => ?_)))))
      have zz1 : IsZip g1 z TI TO .ellipsis := z1
      refine wpAny_bind ?_
      simp only [List.forIn_cons, List.forIn_nil, List.zipIdx_cons, List.zipIdx_nil]
      refine wpAny_bind (wpAny_bind (wpAny_onRaise (?_ : wpAny _ _ (Builtin.SmallTypes.nextOf (.ref i1) >>= _) _ _ _)))
      cases hx : xs[n1]? with
      | none =>
        refine wpAny_bind (drawK_end hh (w1.on fun o e => m1.extBut _ _ D.i1z e) (q1.on fun o e => m1.extBut _ _ D.l1z e) hx fun g2 e m2 he => ?_)
        obtain ⟨oe, pe, ce⟩ := he
        have z2 : IsZip g2 z TI TO .ellipsis := m2 _ _ D.i1z.symm zz1
        have ez : e ≠ z := fun x => by subst x; rw [z2] at pe; cases pe; simp at ce
        exact wpAny_setField_rec z2 (by simp) fun g3 _ m3 => hE g3 e (fun c o c1 _ c3 _ x => m3.extBut _ _ c1 (m2 _ _ c3 (m1.extBut _ _ c1 x))) ⟨oe, m3.extBut _ _ ez pe, ce⟩
      | some x =>
        have hy : ys[n2]? = none := hend.elim (fun h => by rw [hx] at h; cases h) id
        refine wpAny_bind (drawK (w1.on fun o e => m1.extBut _ _ D.i1z e) (q1.on fun o e => m1.extBut _ _ D.l1z e) hx fun g2 v2 m2 => wpAny_pure ?_)
        have o2 : IsPair g2 TO a b := m2.extBut _ _ D.TOi1 (m1.extBut _ _ D.TOz ZO)
        refine wpAny_bind (wpAny_seqItems o2 rfl (wpAny_bind (wpAny_updateSeq_pair o2 fun g3 p3 m3 => wpAny_bind (wpAny_letGo (wpAny_pure ?_)))))
        refine wpAny_bind (wpAny_bind (wpAny_onRaise (?_ : wpAny _ _ (Builtin.SmallTypes.nextOf (.ref i2) >>= _) _ _ _)))
        refine wpAny_bind (drawK_end hh (w2.on fun o e => m3.extBut _ _ D.TOi2.symm (m2.extBut _ _ D.i12.symm (m1.extBut _ _ D.i2z e))) (q2.on fun o e => m3.extBut _ _ D.l2TO (m2.extBut _ _ D.l2i1 (m1.extBut _ _ D.l2z e))) hy fun g4 e m4 he => ?_)
        obtain ⟨oe, pe, ce⟩ := he
        have z4 : IsZip g4 z TI TO .ellipsis := m4 _ _ D.i2z.symm (m3.extBut _ _ D.TOz.symm (m2.extBut _ _ D.i1z.symm zz1))
        have ez : e ≠ z := fun x => by subst x; rw [z4] at pe; cases pe; simp at ce
        exact wpAny_setField_rec z4 (by simp) fun g5 _ m5 => hE g5 e (fun c o c1 c2 c3 c4 x => m5.extBut _ _ c1 (m4 _ _ c4 (m3.extBut _ _ c2 (m2.extBut _ _ c3 (m1.extBut _ _ c1 x))))) ⟨oe, m5.extBut _ _ ez pe, ce⟩))))
def itObj (k : Bool) (l : Addr) : Obj := { cls := .type (if k then "list_iterator" else "tuple_iterator"), data := .fields #[.ref l, .int 0 0] }
def zh2 (k1 k2 : Bool) (h : Heap) (l1 l2 : Addr) : Heap := (h.push (itObj k1 l1)).push (itObj k2 l2)
def zh4 (k1 k2 : Bool) (h : Heap) (l1 l2 : Addr) : Heap := ((zh2 k1 k2 h l1 l2).push { cls := .type "tuple", data := .seq #[.ref h.objs.size, .ref (h.push (itObj k1 l1)).objs.size] }).push { cls := .type "tuple", data := .seq #[.none, .none] }
def zh5 (k1 k2 : Bool) (h : Heap) (l1 l2 : Addr) : Heap := (zh4 k1 k2 h l1 l2).push { cls := .type "zip", data := .fields #[.none, .bool false, .bool false, .ref (zh2 k1 k2 h l1 l2).objs.size, .ref ((zh2 k1 k2 h l1 l2).push { cls := .type "tuple", data := .seq #[.ref h.objs.size, .ref (h.push (itObj k1 l1)).objs.size] }).objs.size] }
theorem zip_newK (k1 k2 : Bool) (l1 l2 : Addr) (xs ys : Array Value) :
    Meets (Builtin.«zip.__new__» ⟨[.type "zip", .ref l1, .ref l2], []⟩) (fun _ R s => SqK k1 s.heap l1 xs ∧ SqK k2 s.heap l2 ys ∧ R (.ok (.ret (.ref (zh4 k1 k2 s.heap l1 l2).objs.size))) { s with heap := zh5 k1 k2 s.heap l1 l2 }) :=
  .of_wp fun prog w A R s h => by
    obtain ⟨hp, g, d, tk, os⟩ := s
    obtain ⟨c1, c2, h⟩ := h
    have hsub := sub_zip
    cases k1 <;> cases k2
    · have e1 : Heap.IsTuple (Shared.heap ⟨hp, g, d, tk, os⟩) l1 xs := c1
      have e2 : Heap.IsTuple (Shared.heap ⟨hp.push { cls := .type "tuple_iterator", data := .fields #[.ref l1, .int 0 0] }, g, d, tk, os⟩) l2 ys := Heap.IsTuple.push c2 _
      wp_walk using wpAny_pyIter_tuple e1, wpAny_pyIter_tuple e2
      exact ⟨_, rfl, h⟩
    · have e1 : Heap.IsTuple (Shared.heap ⟨hp, g, d, tk, os⟩) l1 xs := c1
      have e2 : Heap.IsList (Shared.heap ⟨hp.push { cls := .type "tuple_iterator", data := .fields #[.ref l1, .int 0 0] }, g, d, tk, os⟩) l2 ys := Heap.IsList.push c2 _
      wp_walk using wpAny_pyIter_tuple e1, wpAny_pyIter_list e2
      exact ⟨_, rfl, h⟩
    · have e1 : Heap.IsList (Shared.heap ⟨hp, g, d, tk, os⟩) l1 xs := c1
      have e2 : Heap.IsTuple (Shared.heap ⟨hp.push { cls := .type "list_iterator", data := .fields #[.ref l1, .int 0 0] }, g, d, tk, os⟩) l2 ys := Heap.IsTuple.push c2 _
      wp_walk using wpAny_pyIter_list e1, wpAny_pyIter_tuple e2
      exact ⟨_, rfl, h⟩
    · have e1 : Heap.IsList (Shared.heap ⟨hp, g, d, tk, os⟩) l1 xs := c1
      have e2 : Heap.IsList (Shared.heap ⟨hp.push { cls := .type "list_iterator", data := .fields #[.ref l1, .int 0 0] }, g, d, tk, os⟩) l2 ys := Heap.IsList.push c2 _
      wp_walk using wpAny_pyIter_list e1, wpAny_pyIter_list e2
      exact ⟨_, rfl, h⟩
theorem call_zipK {k1 k2 : Bool} {l1 l2 : Addr} {xs ys : Array Value} {Q : Value → Shared → Prop} (c1 : SqK k1 s.heap l1 xs) (c2 : SqK k2 s.heap l2 ys)
    (h : ∀ h' z TI TO i1 i2, ZipApart z TI TO i1 i2 l1 l2 → ZSt h' z TI TO i1 i2 .none .none .none → ItK k1 h' i1 l1 0 → ItK k2 h' i2 l2 0 → (∀ c o, s.heap.get? c = some o → h'.get? c = some o) → (∀ b ∈ [z, TI, TO, i1, i2], s.heap.objs.size ≤ b) → Q (.ref z) { s with heap := h' }) :
    wpAny (model prog w) A (call (.type "zip") [.ref l1, .ref l2]) Q E s := by
  obtain ⟨o1, p1⟩ := c1.obj
  obtain ⟨o2, p2⟩ := c2.obj
  refine callType_new F.called_zip (by decide) (F.typeCall_zip_2 _ _) (F.newCall_zip_2 _ _) (fun obj => F.args_object_init_3 obj _ _) F.entry_zip_new (zip_newK k1 k2 l1 l2 xs ys) ⟨c1, c2, ?_⟩
  generalize hn : s.heap.objs.size = n
  have lt1 : l1 < n := hn ▸ Heap.lt_size p1
  have lt2 : l2 < n := hn ▸ Heap.lt_size p2
  have y1 : (s.heap.push (itObj k1 l1)).objs.size = n + 1 := by rw [Heap.size_push, hn]
  have y2 : (zh2 k1 k2 s.heap l1 l2).objs.size = n + 2 := by unfold zh2; rw [Heap.size_push, y1]
  have y3 : ((zh2 k1 k2 s.heap l1 l2).push { cls := .type "tuple", data := .seq #[.ref s.heap.objs.size, .ref (s.heap.push (itObj k1 l1)).objs.size] }).objs.size = n + 3 := by rw [Heap.size_push, y2]
  have y4 : (zh4 k1 k2 s.heap l1 l2).objs.size = n + 4 := by unfold zh4; rw [Heap.size_push, y3]
  have up4 : ∀ c o, (zh4 k1 k2 s.heap l1 l2).get? c = some o → (zh5 k1 k2 s.heap l1 l2).get? c = some o := fun c o e => Heap.get?_push_of_some _ e
  have up2 : ∀ c o, (zh2 k1 k2 s.heap l1 l2).get? c = some o → (zh5 k1 k2 s.heap l1 l2).get? c = some o := fun c o e => up4 c o (Heap.get?_push_of_some _ (Heap.get?_push_of_some _ e))
  have f5 : (zh5 k1 k2 s.heap l1 l2).get? (zh4 k1 k2 s.heap l1 l2).objs.size = some _ := Heap.get?_push_size _ rfl
  have f4 : (zh5 k1 k2 s.heap l1 l2).get? ((zh2 k1 k2 s.heap l1 l2).push { cls := .type "tuple", data := .seq #[.ref s.heap.objs.size, .ref (s.heap.push (itObj k1 l1)).objs.size] }).objs.size = some _ := up4 _ _ (Heap.get?_push_size _ rfl)
  have f3 : (zh5 k1 k2 s.heap l1 l2).get? (zh2 k1 k2 s.heap l1 l2).objs.size = some _ := up4 _ _ (Heap.get?_push_of_some _ (Heap.get?_push_size _ rfl))
  have f2 : (zh5 k1 k2 s.heap l1 l2).get? (s.heap.push (itObj k1 l1)).objs.size = some (itObj k2 l2) := up2 _ _ (Heap.get?_push_size _ (by cases k2 <;> rfl))
  have f1 : (zh5 k1 k2 s.heap l1 l2).get? s.heap.objs.size = some (itObj k1 l1) := up2 _ _ (Heap.get?_push_of_some _ (Heap.get?_push_size _ (by cases k1 <;> rfl)))
  rw [y2, y3, y4] at f5
  rw [y3] at f4
  rw [y2, y1, hn] at f3
  rw [y1] at f2
  rw [hn] at f1
  have r1 : ItK k1 (zh5 k1 k2 s.heap l1 l2) n l1 0 := by cases k1 <;> exact ⟨_, f1, rfl, rfl⟩
  have r2 : ItK k2 (zh5 k1 k2 s.heap l1 l2) (n + 1) l2 0 := by cases k2 <;> exact ⟨_, f2, rfl, rfl⟩
  refine (?_ : _ ∧ _)
  rw [y4]
  refine ⟨⟨_, f5, rfl⟩, h _ (n + 4) (n + 2) (n + 3) n (n + 1) (zipApart_new lt1 lt2) ⟨f5, f3, f4⟩ r1 r2 (fun c o e => up2 _ _ (Heap.get?_push_of_some _ (Heap.get?_push_of_some _ e))) fun b hb => ?_⟩
  rw [hn]
  simp only [List.mem_cons, List.not_mem_nil, or_false] at hb
  rcases hb with e | e | e | e | e <;> (rw [e]; first | exact Nat.le_refl _ | exact Nat.le_add_right _ _)
end
end L3
namespace L3
open PySem PySem.Spec PyProof.Rows L2
open PySem.W (Dat kqdOk)
section
variable {X : Cx} {pins : List (Addr × Obj)} {σ : L2.St} {H : Hp} {s : Shared} {h' : Heap}
theorem turnedN {t' : Nat} {ch : List Addr} (I : Inv X pins σ H s) (k : ∀ b o, b ∉ ch → s.heap.get? b = some o → h'.get? b = some o) (hf : ∀ b ∈ ch, FpOk X pins H b) : Inv X pins σ H { s with heap := h', toks := t' } := by
  have out : ∀ b u, H b = some u → b ∉ ch := fun b u e z => by rw [(hf b z).1] at e; cases e
  refine I.step (g' := s.gens) (d' := s.drawn) (ch := ch) (fun b hb => ?_) (fun b o _ _ hc e _ => k b o hc e) (fun b o _ _ hc e _ => ⟨o.slots, k b o hc e⟩) (fun _ _ _ _ n => n)
    (fun b o hc e => ⟨o, k b o hc e⟩) (fun _ _ e => e) (fun _ _ _ e => e) (fun b ps e => ⟨#[], by rw [e]; simp⟩) (fun m hm => ?_) (fun b u e => ?_) I.bare
  · obtain ⟨_, f1, _, f3, f4, f5⟩ := hf b hb
    exact ⟨f3, f1, f4, f5⟩
  · obtain ⟨o, es, ep, ho, r⟩ := hm
    exact ⟨o, es, ep, k _ o (fun z => (hf _ z).2.1 rfl) ho, r⟩
  · refine (I.hok b u e).stay (fun c v hc q => k c v (hc.elim (fun z => by rw [z]; exact out b u e) fun z => out c _ z) q) (fun _ q => q) fun _ _ q => q
end
def SqV (K : Fg) : Bool → Hp → Addr → List V → Prop
  | true, H, a, xs => SqL K H a xs
  | false, H, a, xs => SqT K H a xs
theorem seqK {X : Cx} {pins : List (Addr × Obj)} {σ : L2.St} {H : Hp} {s : Shared} {k : Bool} {a : Addr} {xs : List V} (I : Inv X pins σ H s) (h : SqV X.K k H a xs) : ∃ its : List Value, Vals xs its ∧ SqK k s.heap a its.toArray := by
  cases k with
  | true => obtain ⟨its, r, p, _⟩ := I.list h; exact ⟨its, r, p.isList⟩
  | false => obtain ⟨its, r, p, _⟩ := I.tuple h; exact ⟨its, r, show s.heap.IsTuple a its.toArray from p⟩
theorem seqK_inj {X : Cx} {pins : List (Addr × Obj)} {σ : L2.St} {H : Hp} {s : Shared} {k : Bool} {a : Addr} {xs ys : List V} (I : Inv X pins σ H s) (h : SqV X.K k H a xs) (h' : SqV X.K k H a ys) : xs = ys := by
  cases k with
  | true => exact I.list_inj h h'
  | false => exact I.tuple_inj h h'
def Itz (K : Fg) (k1 k2 : Bool) (a1 a2 : Addr) : It :=
  ⟨fun i H => ∃ xs ys x y, SqV K k1 H a1 xs ∧ SqV K k2 H a2 ys ∧ xs[i]? = some x ∧ ys[i]? = some y,
   fun i H v H' => ∃ T x y, v = .ref T ∧ H T = none ∧ H' = upd H T (.tup [x, y]) ∧ ∀ xs ys, SqV K k1 H a1 xs → SqV K k2 H a2 ys → xs[i]? = some x ∧ ys[i]? = some y,
   fun i H => ∃ xs ys, SqV K k1 H a1 xs ∧ SqV K k2 H a2 ys ∧ (xs.length ≤ i ∨ ys.length ≤ i)⟩
theorem turn_zip {P : Program} {w : World} {K : Fg} {tgs : List Expr} {kt : Nat} {pt : Pos} {k1 k2 : Bool} {a1 a2 z TI TO i1 i2 : Addr} (D : ZipApart z TI TO i1 i2 a1 a2) :
    Turn P w K (.Tuple tgs kt pt) (Itz K k1 k2 a1 a2) [z, TI, TO, i1, i2] z (fun i h => (∃ a b, ZSt h z TI TO i1 i2 .none a b) ∧ ItK k1 h i1 a1 i ∧ ItK k2 h i2 a2 i) where
  mem := List.mem_cons_self
  obj := fun i h st b hb => by
    obtain ⟨⟨u, v, Z1, Z2, Z3⟩, w1, w2⟩ := st
    simp only [List.mem_cons, List.not_mem_nil, or_false] at hb
    rcases hb with e | e | e | e | e
    · rw [e]; exact ⟨_, Z1, fun v z => nomatch z⟩
    · rw [e]; exact ⟨_, Z2, fun v z => nomatch z⟩
    · rw [e]; exact ⟨_, Z3, fun v z => nomatch z⟩
    · rw [e]; exact w1.obj
    · rw [e]; exact w2.obj
  keep := fun i h h' st k => by
    obtain ⟨⟨u, v, Z1, Z2, Z3⟩, w1, w2⟩ := st
    exact ⟨⟨u, v, k z (by simp) _ Z1, k TI (by simp) _ Z2, k TO (by simp) _ Z3⟩, w1.on (k i1 (by simp)), w2.on (k i2 (by simp))⟩
  item := by
    intro X hP hw hK hc i pins s σ H E I hf st hg
    subst hP hw hK
    obtain ⟨⟨u, v, Z⟩, w1, w2⟩ := st
    obtain ⟨xs, ys, x, y, c1, c2, hx, hy⟩ := hg
    obtain ⟨its1, r1, p1⟩ := seqK I c1
    obtain ⟨its2, r2, p2⟩ := seqK I c2
    obtain ⟨ux, hux, rx⟩ := r1.get hx
    obtain ⟨uy, huy, ry⟩ := r2.get hy
    have hT : s.TypeIs (.ref z) "zip" := ⟨_, Z.1, rfl⟩
    have lt : ∀ b ∈ [z, TI, TO, i1, i2], b < s.heap.objs.size := fun b hb => by
      simp only [List.mem_cons, List.not_mem_nil, or_false] at hb
      rcases hb with e | e | e | e | e
      · rw [e]; exact Heap.lt_size Z.1
      · rw [e]; exact Heap.lt_size Z.2.1
      · rw [e]; exact Heap.lt_size Z.2.2
      · rw [e]; obtain ⟨o, q, _⟩ := w1.obj; exact Heap.lt_size q
      · rw [e]; obtain ⟨o, q, _⟩ := w2.obj; exact Heap.lt_size q
    unfold pyNext
    refine wpAny_bind (wpAny_attempt (wpAny_callSpecial?_slot (name := Str.ofString "__next__") hT F.slot_zip_next (wpAny_call_entry F.slot_zip_next hT F.entry_zip_next (zipK_next D Z w1 w2 p1 p2 (x := ux) (y := uy) (by simpa using hux) (by simpa using huy) fun g b1 b2 b3 b4 b5 b6 => wpAny_pure ?_) (F.args_zip_next_1 _))))
    refine ⟨_, rfl, wpAny_letOwnedTupleGo_zip (s := { s with heap := g }) b1 fun g' b7 b8 => ?_⟩
    have In : Inv X pins σ (upd H s.heap.objs.size (.tup [x, y])) { s with heap := s.heap.push { cls := .type "tuple", data := .seq #[ux, uy] }, toks := s.toks } :=
      I.laid (t' := s.toks) (fun b u e => Heap.get?_push_of_some _ e) (Nat.le_refl _) ⟨by show 2 ≤ sizeLine; decide, [ux, uy], .cons rx (.cons ry .nil), ⟨_, Heap.get?_push_size _ rfl, rfl, _, rfl⟩⟩
    have hfn : ∀ b ∈ [z, TI, TO, i1, i2], (upd H s.heap.objs.size (.tup [x, y])) b = none := fun b hb => by
      rw [upd_ne (Nat.ne_of_lt (lt b hb))]; exact (hf b hb).1
    have cn : ∀ b, b ∉ [z, TI, TO, i1, i2] → b ≠ z ∧ b ≠ TO ∧ b ≠ i1 ∧ b ≠ i2 := fun b h => by
      simp only [List.mem_cons, List.not_mem_nil, or_false, not_or] at h
      exact ⟨h.1, h.2.2.1, h.2.2.2.1, h.2.2.2.2⟩
    have nT : s.heap.objs.size ≠ z := Nat.ne_of_gt (lt z (by simp))
    have I3 : Inv X pins σ (upd H s.heap.objs.size (.tup [x, y])) { s with heap := g', toks := s.toks } := turnedN (s := { s with heap := s.heap.push { cls := .type "tuple", data := .seq #[ux, uy] }, toks := s.toks }) (h' := g') (t' := s.toks) (ch := [z, TI, TO, i1, i2]) In (fun b o hb e => by
      obtain ⟨n1, n2, n3, n4⟩ := cn b hb
      refine b8.extBut _ _ n1 ?_
      rcases Heap.get?_push_cases (show (s.heap.push { cls := .type "tuple", data := .seq #[ux, uy] }).get? b = some o from e) with ⟨e1, e2⟩ | e1
      · rw [e1, e2]; exact b5
      · exact b6 b o n1 n2 n3 n4 e1) fun b hb => ⟨hfn b hb, (hf b hb).2⟩
    refine ⟨.ref s.heap.objs.size, upd H s.heap.objs.size (.tup [x, y]), I3, rfl, ⟨_, x, y, rfl, I.hok.fresh (Nat.le_refl _), rfl, fun xs' ys' d1 d2 => ?_⟩, ⟨⟨_, _, b7, b8.extBut _ _ D.TIz (b6 _ _ D.TIz D.TITO D.TIi1 D.TIi2 Z.2.1), b8.extBut _ _ D.TOz b2⟩, b3.on fun o e => b8.extBut _ _ D.i1z e, b4.on fun o e => b8.extBut _ _ D.i2z e⟩, hfn⟩
    rw [seqK_inj I d1 c1, seqK_inj I d2 c2]
    exact ⟨hx, hy⟩
  done := by
    intro X hP hw hK hc i pins s σ H E I hf st hg
    subst hP hw hK
    obtain ⟨⟨u, v, Z⟩, w1, w2⟩ := st
    obtain ⟨xs, ys, c1, c2, hl⟩ := hg
    obtain ⟨its1, r1, p1⟩ := seqK I c1
    obtain ⟨its2, r2, p2⟩ := seqK I c2
    have l1 := r1.length
    have l2 := r2.length
    have hT : s.TypeIs (.ref z) "zip" := ⟨_, Z.1, rfl⟩
    have hend : its1.toArray[i]? = none ∨ its2.toArray[i]? = none := hl.elim (fun h => .inl (by simp; omega)) fun h => .inr (by simp; omega)
    unfold pyNext
    refine wpAny_bind (wpAny_attempt (wpAny_callSpecial?_slot (name := Str.ofString "__next__") hT F.slot_zip_next (wpAny_call_entry F.slot_zip_next hT F.entry_zip_next (zipK_stop (I.ok.hd hc) D Z w1 w2 p1 p2 hend fun g e k he => ?_) (F.args_zip_next_1 _))))
    obtain ⟨o, ho, hcl⟩ := he
    refine wpAny_bind (wpAny_isInstance (T := "StopIteration") (b := true) ⟨o, ho, hcl⟩ isSubtype_stop (wpAny_pure ⟨rfl, ?_⟩))
    exact turnedN (h' := g) (t' := s.toks) (ch := [z, TI, TO, i1, i2]) I (fun b o hb e => by
      simp only [List.mem_cons, List.not_mem_nil, or_false, not_or] at hb
      exact k b o hb.1 hb.2.2.1 hb.2.2.2.1 hb.2.2.2.2 e) hf
  self := fun A i s Q E st h => wpAny_pyIter_zip st.1.choose_spec.choose_spec.1 h
section
variable {X : Cx} {a b : Expr} {pos : Pos} {fs : Rho → Option (List Dat)}
def iZip (K : Fg) (ta : TA) : TI := fun σ H R => ta σ H fun vs H1 => ∃ k1 k2 a1 a2, vs = [.ref a1, .ref a2] ∧ (∃ xs, SqV K k1 H1 a1 xs) ∧ (∃ ys, SqV K k2 H1 a2 ys) ∧ R (Itz K k1 k2 a1 a2) H1
theorem pi_zip {tgs : List Expr} {kt : Nat} {pt : Pos} {ta : TA} {p : Pos} (hg : Gl X "zip") (hm : X.mg "zip" = none) (ha : PA X [a, b] ta) (hs : starEach [a, b] X.env = [(false, eval a X.env), (false, eval b X.env)] := by rfl) (hs2 : starEach [b] X.env = [(false, eval b X.env)] := by rfl) :
    PI X (.Tuple tgs kt pt) (.Call (.Name "zip" p) [a, b] [] pos) (iZip X.K ta) := by
  intro pins s σ H R I h
  refine Call_ (ld_blt I hg hm boot_zip (PyProof.Rows.callWith_type1 (thn (ha pos pins s σ H _ I h) fun us s1 ⟨vs, H1, I1, r1, q1⟩ => ?_) (by rw [hs, hs2]) (by rw [hs2]; rfl)))
  obtain ⟨k1, k2, a1, a2, e, ⟨xs, c1⟩, ⟨ys, c2⟩, q⟩ := q1
  subst e
  cases r1 with
  | cons r rr =>
    cases rr with
    | cons r' rr =>
      cases rr
      cases r
      cases r'
      obtain ⟨its1, _, p1⟩ := seqK I1 c1
      obtain ⟨its2, _, p2⟩ := seqK I1 c2
      exact call_zipK p1 p2 fun h' z TI TO i1 i2 D Z w1 w2 kk new => wpAny_pyIter_zip Z.1 ⟨z, [z, TI, TO, i1, i2], _, _, H1, rfl, I1.kept (t' := s1.toks) kk, turn_zip D, ⟨⟨_, _, Z⟩, w1, w2⟩, fun b hb => I1.fpOk (new b hb) (I1.hok.fresh (new b hb)), q⟩
def zipL : List Dat → List Dat → List Dat
  | x :: xs, y :: ys => .tuple [x, y] :: zipL xs ys
  | _, _ => []
def iZipD (fs : Rho → Option (List Dat)) : Rho → Option (List Dat) := fun ρ => (fs ρ).bind fun ds => match ds with
  | [d1, d2] => (itemsD d1).bind fun x => (itemsD d2).map fun y => zipL x y
  | _ => none
theorem zipL_get : ∀ {xs ys : List Dat} {i : Nat}, (zipL xs ys).length = min xs.length ys.length ∧ ∀ d, (zipL xs ys)[i]? = some d → ∃ x y, xs[i]? = some x ∧ ys[i]? = some y ∧ d = .tuple [x, y]
  | [], ys, i => ⟨by simp [zipL], fun d h => by simp [zipL] at h⟩
  | x :: xs, [], i => ⟨by simp [zipL], fun d h => by simp [zipL] at h⟩
  | x :: xs, y :: ys, 0 => ⟨by
      have := (zipL_get (xs := xs) (ys := ys) (i := 0)).1
      simp only [zipL, List.length_cons, this]; omega, fun d h => by simp [zipL] at h; exact ⟨x, y, rfl, rfl, h.symm⟩⟩
  | x :: xs, y :: ys, i + 1 => ⟨by
      have := (zipL_get (xs := xs) (ys := ys) (i := i)).1
      simp only [zipL, List.length_cons, this]; omega, fun d h => by
      obtain ⟨a, b, h1, h2, h3⟩ := (zipL_get (xs := xs) (ys := ys) (i := i)).2 d (by simpa [zipL] using h)
      exact ⟨a, b, by simpa using h1, by simpa using h2, h3⟩⟩
theorem items_sq {K : Fg} {H : Hp} {Av : AvP} {v : V} {d : Dat} {ds : List Dat} (r : RepD K H Av v d) (h : itemsD d = some ds) : ∃ k a, v = .ref a ∧ ∀ H' Av', RepD K H' Av' (.ref a) d → ∃ xs, SqV K k H' a xs ∧ RepDs K H' Av' xs ds := by
  cases d with
  | list ds' =>
    cases h
    obtain ⟨a, xs, rfl, _, _⟩ := r.l_inv
    refine ⟨true, a, rfl, fun H' Av' r' => ?_⟩
    obtain ⟨_, xs, e, hq, rs⟩ := r'.l_inv
    cases e
    exact ⟨xs, hq.sq, rs⟩
  | tuple ds' =>
    cases h
    obtain ⟨a, xs, rfl, _, _⟩ := r.t_inv
    refine ⟨false, a, rfl, fun H' Av' r' => ?_⟩
    obtain ⟨_, xs, e, hq, rs⟩ := r'.t_inv
    cases e
    exact ⟨xs, hq.sq, rs⟩
  | _ => cases h
theorem pif_zip {tgs : List Expr} {kt : Nat} {pt p : Pos} (hm : X.mg "zip" = none) (ha : PFA X [a, b] fs) (hg : Gl X "zip" := by rfl) (hs : starEach [a, b] X.env = [(false, eval a X.env), (false, eval b X.env)] := by rfl) (hs2 : starEach [b] X.env = [(false, eval b X.env)] := by rfl) :
    PIF X (.Tuple tgs kt pt) (.Call (.Name "zip" p) [a, b] [] pos) (iZipD fs) := pi_mono (pi_zip hg hm ha hs hs2) fun σ H R ⟨Av, ρ, ds, hA, hE, hf, q⟩ => by
  obtain ⟨as, e1, hf⟩ := bind_some hf
  refine ⟨Av, ρ, as, hA, hE, e1, fun vs H1 s1 r => ?_⟩
  match as, hf, r with
  | [d1, d2], hf, r =>
    obtain ⟨x, f1, hf⟩ := bind_some hf
    obtain ⟨y, f2, hf⟩ := map_some' hf
    subst hf
    obtain ⟨v, u, rfl, rv, ru⟩ := r.two_inv
    obtain ⟨k1, a1, rfl, g1⟩ := items_sq rv f1
    obtain ⟨k2, a2, rfl, g2⟩ := items_sq ru f2
    obtain ⟨xs, c1, _⟩ := g1 H1 Av rv
    obtain ⟨ys, c2, _⟩ := g2 H1 Av ru
    refine ⟨k1, k2, a1, a2, rfl, ⟨xs, c1⟩, ⟨ys, c2⟩, q _ [.ref a1, .ref a2] [d1, d2] H1 s1 r fun i H Av' rr => ?_⟩
    obtain ⟨v', u', e, rv', ru'⟩ := rr.two_inv
    cases e
    obtain ⟨xs, c1, rx⟩ := g1 H Av' rv'
    obtain ⟨ys, c2, ry⟩ := g2 H Av' ru'
    refine ⟨fun hl => ⟨xs, ys, c1, c2, ?_⟩, fun di hd => ?_⟩
    · rw [(zipL_get (i := 0)).1] at hl
      rw [rx.length, ry.length]; omega
    · obtain ⟨dx, dy, h1, h2, rfl⟩ := (zipL_get (xs := x) (ys := y) (i := i)).2 di hd
      obtain ⟨vx, hx, rvx⟩ := rx.get h1
      obtain ⟨vy, hy, rvy⟩ := ry.get h2
      refine ⟨⟨xs, ys, vx, vy, c1, c2, hx, hy⟩, fun z H' hav hz => ?_⟩
      obtain ⟨T, x', y', rfl, hT, rfl, hh⟩ := hz
      obtain ⟨h3, h4⟩ := hh xs ys c1 c2
      rw [hx] at h3
      rw [hy] at h4
      cases h3
      cases h4
      exact ⟨same_new hT _, .newT hav hT (.cons rvx (.cons rvy .nil))⟩
end
end L3
namespace L3
open PySem PySem.Spec PyProof.Rows L2
open PySem.W (Dat kqdOk)
section
variable {X : Cx} {e : Expr} {pos dpos : Pos} {f fk : Rho → Option Dat} {fs : Rho → Option (List Dat)}
theorem ph_tuple {p : Pos} {es : List Expr} {hs : Gam → Option (List Dat × Gam)} (hm : X.mg "tuple" = none) (pa : PHA X (e :: es) hs) (hg : Gl X "tuple" := by rfl) (he : starEach (e :: es) X.env = (false, eval e X.env) :: starEach es X.env := by rfl) (hpl : (backTo pos (starEach es X.env)).any (·.1) = false := by rfl) : PH X (.Call (.Name "tuple" p) (e :: es) [] pos) (hCall tupleD hs) :=
  ph_callTy call_tuple_of callD_tuple hm pa hg (by decide +kernel) (by decide) (by decide) he hpl
theorem tg_two {i j : Nat} {cap : List (Option Nat)} (hi : cap[i]? = some none) (hj : cap[j]? = some none) : TgOk (aTup 2 (aCons (aName i) (aCons (aName j) aNil))) cap := fun d as e p hp => by
  unfold aTup at e
  split at e
  · split at e
    · rename_i ds hl
      match ds, hl with
      | [a, b], _ =>
        cases e
        rcases List.mem_cons.mp hp with e | hp
        · rw [e]; exact hi
        · rcases List.mem_cons.mp hp with e | hp
          · rw [e]; exact hj
          · simp at hp
    · cases e
  · cases e
end
end L3
namespace L3
open PySem PySem.Spec PyProof.Rows L2
open PySem.W (Dat kqdOk)
section
variable {X : Cx} {a b e tg iter elt : Expr} {pos : Pos} {f fb : Rho → Option Dat} {fs : Rho → Option (List Dat)} {fi : Rho → Option (List Dat)} {gt : Dat → Option Asg}
theorem RepDs.rep {K : Fg} {H : Hp} {Av : AvP} {vs : List V} {ds : List Dat} (h : RepDs K H Av vs ds) : ∀ k : Nat, RepDs K H Av (List.replicate k vs).flatten (List.replicate k ds).flatten
  | 0 => .nil
  | k + 1 => by
    rw [List.replicate_succ, List.replicate_succ, List.flatten_cons, List.flatten_cons]
    exact h.append (RepDs.rep h k)
def fRep (fs : Rho → Option (List Dat)) (fb : Rho → Option Dat) : Rho → Option (List Dat) := fun ρ => (fs ρ).bind fun ds => (fb ρ).bind fun d => match d with
  | .int k => if (-(2 ^ 63) ≤ k ∧ k < 2 ^ 63) ∧ ds.length * k.toNat ≤ sizeLine then some (List.replicate k.toNat ds).flatten else none
  | _ => none
theorem pfl_rep (ha : PE X a (tFL X.K fs)) (hb : PF X b fb) : PE X (.BinOp a .Mult b pos) (tFL X.K (fRep fs fb)) := pe_mono (pe_op op_rep ha hb) fun σ H Q ⟨Av, ρ, out, hA, hE, hf, q⟩ => by
  obtain ⟨ds, e1, hf⟩ := bind_some hf
  obtain ⟨d, e2, hf⟩ := bind_some hf
  split at hf
  · rename_i k
    split at hf
    · rename_i hk
      cases hf
      refine ⟨Av, ρ, ds, hA, hE, e1, fun H1 p xs s1 hp r => ?_⟩
      have s2 := same_new hp (.lst xs)
      refine ⟨Av, ρ, .int k, hA.same (s1.trans s2), hE.same (s1.trans s2), e2, fun y H2 s3 ry => ?_⟩
      exact ⟨p, k, xs, rfl, ry.i_inv, s3 p _ upd_same, hk.1.1, hk.1.2, by rw [r.length]; exact hk.2, fun q' hq => q H2 q' _ (s1.trans (s2.trans s3)) hq ((r.same (s2.trans s3)).rep _)⟩
    · cases hf
  · cases hf
theorem psf_setCI (i : Nat) {x : Str} {pos' spos : Pos} {ifs : List Expr} {scope : Scope} {cl : List (Str × Addr)} {N' : List Str} {cap : List (Option Nat)} {ft : Rho → Option Bool} {fe : Rho → Option Dat}
    (hN : X.N.Nodup) (hc : X.calm = true) (B : Blk X scope cl N' cap) (hi : PIF X tg iter fi) (hg : ∀ C s₀ H₀ ex, PG (blk X scope cl N' C s₀ H₀ ex) tg (tGF X.K gt)) (ht : ∀ C s₀ H₀ ex, PTs (blk X scope cl N' C s₀ H₀ ex) ifs (tTF X.K ft)) (he : ∀ C s₀ H₀ ex, PF (blk X scope cl N' C s₀ H₀ ex) elt fe) (hT : TgOk gt cap)
    (hxi : X.N[i]? = some x := by rfl) (hx : Loc X.env.scope x := by first | exact .inl rfl | exact .inr rfl) (hsw : swapsWith (.ListComp elt [⟨tg, iter, ifs, 0⟩] scope pos) (some (.Name x pos')) spos.line X.env = pure true := by rfl)
    (hfx : X.fn x = true ∨ X.env.scope.names.lookup x = some .local := by first | exact .inl rfl | exact .inr rfl) (hs : ∀ x, foldedSetIterable iter X.env x = pure x := by intro _; rfl) :
    PSF X (.Assign [.Name x pos'] (.ListComp elt [⟨tg, iter, ifs, 0⟩] scope pos) spos) (sSetC i (fCompI cap gt ft fe fi)) := ps_mono (ps_comp hc B hi hg ht he hN hxi hx hsw hfx hs) fun D σ H ⟨H₀, Av, pn, hid, Γ, fl, ⟨ad, G⟩, hf, q⟩ => by
  obtain ⟨ds, e1, hf⟩ := map_some' hf
  subst hf
  exact tComp_I hT σ H _ ⟨AvG Av Γ ad, immV Γ, ds, G.avG, G.envI, e1, fun H1 p xs s hp r => q _ _ ⟨ad, ((G.grow s).grow (same_new hp _)).set i (.newL (G.grow s).avG hp r)⟩⟩
end
end L3
namespace L3
open PySem PySem.Spec PyProof.Rows L2
open PySem.W (Dat kqdOk)
section
variable {es ts : List Expr} {env : Env} {a b : Expr} {p : Pos}
theorem star_tup {k} : starEach (.Tuple ts k p :: es) env = (false, eval (.Tuple ts k p) env) :: starEach es env := by rw [starEach]; intro _ _ h; cases h
theorem star_lst : starEach (.List ts p :: es) env = (false, eval (.List ts p) env) :: starEach es env := by rw [starEach]; intro _ _ h; cases h
theorem star_bin {op} : starEach (.BinOp a op b p :: es) env = (false, eval (.BinOp a op b p) env) :: starEach es env := by rw [starEach]; intro _ _ h; cases h
theorem star_un {op} : starEach (.UnaryOp op a p :: es) env = (false, eval (.UnaryOp op a p) env) :: starEach es env := by rw [starEach]; intro _ _ h; cases h
theorem star_sub : starEach (.Subscript a b p :: es) env = (false, eval (.Subscript a b p) env) :: starEach es env := by rw [starEach]; intro _ _ h; cases h
theorem star_call {ks} : starEach (.Call a ts ks p :: es) env = (false, eval (.Call a ts ks p) env) :: starEach es env := by rw [starEach]; intro _ _ h; cases h
end
end L3
namespace L3
open PySem PySem.Spec PyProof.Rows L2
open PySem.W (Dat kqdOk)
structure QE (X : Cx) (e : Expr) (t : TE) : Prop where
  o : PE X e t
structure QT (X : Cx) (e : Expr) (t : TT) : Prop where
  o : PT X e t
structure QW (X : Cx) (e : Expr) (t : TT) : Prop where
  o : PW X e t
structure QA (X : Cx) (e : List Expr) (t : TA) : Prop where
  o : PA X e t
structure QS (X : Cx) (e : Stmt) (t : TS) : Prop where
  o : PS X e t
structure QSs (X : Cx) (e : List Stmt) (t : TS) : Prop where
  o : PSs X e t
structure QG (X : Cx) (e : Expr) (t : TG) : Prop where
  o : PG X e t
structure QGs (X : Cx) (e : List Expr) (t : TGs) : Prop where
  o : PGs X e t
structure QI (X : Cx) (tg e : Expr) (t : TI) : Prop where
  o : PI X tg e t
structure QO (X : Cx) (e : Option Expr) (t : TO) : Prop where
  o : PO X e t
structure QTs (X : Cx) (e : List Expr) (t : TT) : Prop where
  o : PTs X e t
abbrev QF (X : Cx) (e : Expr) (f : Rho → Option Dat) : Prop := QE X e (tF X.K f)
abbrev QFT (X : Cx) (e : Expr) (f : Rho → Option Bool) : Prop := QT X e (tTF X.K f)
abbrev QFW (X : Cx) (e : Expr) (f : Rho → Option Bool) : Prop := QW X e (tTF X.K f)
abbrev QFA (X : Cx) (e : List Expr) (f : Rho → Option (List Dat)) : Prop := QA X e (tFA X.K f)
abbrev QSF (X : Cx) (e : Stmt) (f : Gam → Option Fl) : Prop := QS X e (tSF X.K f)
abbrev QSFs (X : Cx) (e : List Stmt) (f : Gam → Option Fl) : Prop := QSs X e (tSF X.K f)
abbrev QH (X : Cx) (e : Expr) (f : HF) : Prop := QE X e (tH X.K f)
abbrev QHT (X : Cx) (e : Expr) (f : Gam → Option (Bool × Gam)) : Prop := QT X e (tTH X.K f)
abbrev QHA (X : Cx) (e : List Expr) (f : Gam → Option (List Dat × Gam)) : Prop := QA X e (tHA X.K f)
abbrev QIF (X : Cx) (tg e : Expr) (f : Rho → Option (List Dat)) : Prop := QI X tg e (tIF X.K f)
abbrev QFO (X : Cx) (e : Option Expr) (f : Rho → Option (Option Int)) : Prop := QO X e (tOF X.K f)
section
variable {X : Cx} {a b c e : Expr} {es : List Expr} {pos : Pos} {fa fb fc f : Rho → Option Dat} {fs : Rho → Option (List Dat)}
theorem qpf_var (i : Nat) {x : Str} {pos : Pos} (hN : X.N[i]? = some x := by rfl) (hv : Vis X.env.scope x := by first | exact Or.inl rfl | exact Or.inr (Or.inl rfl) | exact Or.inr (Or.inr rfl)) (hd : (x == ("__debug__" : Str)) = false := by decide) (hcd : (x == ("__classdict__" : Str)) = false := by decide) :
    QF X (.Name x pos) (fVar i) :=
  ⟨pf_var (i := i) (hN := hN) (hv := hv) (hd := hd) (hcd := hcd)⟩
theorem qpf_int {i j pos} :
    QF X (.Constant (.int i) j pos) (fC (.int i)) :=
  ⟨pf_int ⟩
theorem qpf_bl {i j pos} :
    QF X (.Constant (.bool i) j pos) (fC (.bool i)) :=
  ⟨pf_bl ⟩
theorem qpf_str {i j pos} :
    QF X (.Constant (.str i) j pos) (fC (.str i)) :=
  ⟨pf_str ⟩
theorem qpft_truth (ha : QF X a fa) (he : ∀ whole, isTrue a X.env whole = (do let v ← whole; standAt a.pos; holding [v] (truthy v)) := by intro _; rfl) :
    QFT X a (fTru fa) :=
  ⟨pft_truth (ha := ha.o) (he := he)⟩
end
section
variable {X : Cx} {a b c e : Expr} {es : List Expr} {pos : Pos} {fa fb fc f : Rho → Option Dat} {fs : Rho → Option (List Dat)}
variable {ft gt : Rho → Option Bool} {rest : List Expr}
theorem qpfw_or1 (ha : QFT X a ft) :
    QFW X (.BoolOp .Or [a] pos) ft :=
  ⟨pfw_or1 (ha := ha.o)⟩
theorem qpfw_or (ha : QFT X a ft) (hb : QFW X (.BoolOp .Or (b :: rest) pos) gt) :
    QFW X (.BoolOp .Or (a :: b :: rest) pos) (fOrT ft gt) :=
  ⟨pfw_or (ha := ha.o) (hb := hb.o)⟩
theorem qpft_w {e : Expr} (h : QFW X e ft) :
    QFT X e ft :=
  ⟨pft_w (h := h.o)⟩
theorem qpft_not (ha : QFT X a ft) :
    QFT X (.UnaryOp .Not a pos) (fNotT ft) :=
  ⟨pft_not (ha := ha.o)⟩
theorem qpf_one {op} (h : QF X a fa) :
    QF X (.BoolOp op [a] pos) fa :=
  ⟨pf_one (h := h.o)⟩
theorem qpf_and (ha : QF X a fa) (hb : QF X (.BoolOp .And (b :: rest) pos) fb) :
    QF X (.BoolOp .And (a :: b :: rest) pos) (fAnd fa fb) :=
  ⟨pf_and (ha := ha.o) (hb := hb.o)⟩
theorem qpfa_nil  :
    QFA X [] fNil :=
  ⟨pfa_nil ⟩
theorem qpfa_cons (ha : QF X e fa) (hr : QFA X es fs) (hs : starEach (e :: es) X.env = (false, eval e X.env) :: starEach es X.env := by rfl) :
    QFA X (e :: es) (fCons fa fs) :=
  ⟨pfa_cons (ha := ha.o) (hr := hr.o) (hs := hs)⟩
theorem qpf_tup {k : Nat} (h : QFA X es fs) {x1} :
    QF X (.Tuple es x1 pos) (fTup fs) :=
  ⟨pf_tup (h := h.o) (k := k)⟩
theorem qpf_lst (h : QFA X es fs) :
    QF X (.List es pos) (fLst fs) :=
  ⟨pf_lst (h := h.o)⟩
theorem qpf_fn {x : Str} {p : Pos} {k n : Nat} {ps : List Str} {F : List Dat → Option Dat} (D : Dn X.prog X.w X.K X.mg X.base k x ps n F) (hr : Room k X.A) (ha : QFA X (e :: es) fs) (hg : Gl X x := by rfl) (hdb : (x == ("__debug__" : Str)) = false := by decide) (he : starEach (e :: es) X.env = (false, eval e X.env) :: starEach es X.env := by rfl) (hpl : (backTo pos (starEach es X.env)).any (·.1) = false := by rfl) :
    QF X (.Call (.Name x p) (e :: es) [] pos) (fFn n F fs) :=
  ⟨pf_fn (D := D) (hr := hr) (ha := ha.o) (hg := hg) (hdb := hdb) (he := he) (hpl := hpl)⟩
end
section
variable {X : Cx} {st : Stmt} {rest : List Stmt} {e : Expr} {f : Rho → Option Dat} {ft : Rho → Option Bool} {g g1 g2 : Gam → Option Fl} {pos : Pos}
theorem qpsf_nil  :
    QSFs X [] sSkip :=
  ⟨psf_nil ⟩
theorem qpsf_one (h : QSF X st g) :
    QSFs X [st] g :=
  ⟨psf_one (h := h.o)⟩
theorem qpsf_cons (h1 : QSF X st g1) (h2 : QSFs X rest g2) :
    QSFs X (st :: rest) (sSeq g1 g2) :=
  ⟨psf_cons (h1 := h1.o) (h2 := h2.o)⟩
theorem qpsf_ret (h : QF X e f) :
    QSF X (.Return (some e) pos) (sRet f) :=
  ⟨psf_ret (h := h.o)⟩
theorem qpsf_if {c : Expr} {a b : List Stmt} (hc : QFT X c ft) (ha : QSFs X a g1) (hb : QSFs X b g2) :
    QSF X (.If c a b pos) (sIf ft g1 g2) :=
  ⟨psf_if (hc := hc.o) (ha := ha.o) (hb := hb.o)⟩
theorem qpsf_set (i : Nat) {x : Str} {pos' : Pos} (hN : X.N.Nodup) (h : QF X e f) (hi : X.N[i]? = some x := by rfl) (hx : Loc X.env.scope x := by first | exact .inl rfl | exact .inr rfl) (hs : swapsWith e (some (.Name x pos')) pos.line X.env = pure false := by rfl) (hf : X.fn x = true ∨ X.env.scope.names.lookup x = some .local := by first | exact .inl rfl | exact .inr rfl) :
    QSF X (.Assign [.Name x pos'] e pos) (sSet i f) :=
  ⟨psf_set (i := i) (hN := hN) (h := h.o) (hi := hi) (hx := hx) (hs := hs) (hf := hf)⟩
theorem qpgf_name (i : Nat) {x : Str} (hN : X.N.Nodup) (hi : X.N[i]? = some x := by rfl) (hx : Loc X.env.scope x := by first | exact .inl rfl | exact .inr rfl) (hf : X.fn x = true ∨ X.env.scope.names.lookup x = some .local := by first | exact .inl rfl | exact .inr rfl) :
    QG X (.Name x pos) (tGF X.K (aName i)) :=
  ⟨pgf_name (i := i) (hN := hN) (hi := hi) (hx := hx) (hf := hf)⟩
theorem qpgfs_nil  :
    QGs X [] (tGFs X.K aNil) :=
  ⟨pgfs_nil ⟩
theorem qpgfs_cons {tg : Expr} {tgs : List Expr} {gt : Dat → Option Asg} {gts : List Dat → Option Asg} (h1 : QG X tg (tGF X.K gt)) (h2 : QGs X tgs (tGFs X.K gts)) (hs : (assignEach (tg :: tgs) X.env).map (·.2) = assign tg X.env :: (assignEach tgs X.env).map (·.2) := by rfl) :
    QGs X (tg :: tgs) (tGFs X.K (aCons gt gts)) :=
  ⟨pgfs_cons (h1 := h1.o) (h2 := h2.o) (hs := hs)⟩
theorem qpgf_tup {tgs : List Expr} {k : Nat} {gts : List Dat → Option Asg} {n : Nat} (hc : X.calm = true) (h : QGs X tgs (tGFs X.K gts)) (hn : (assignEach tgs X.env).length = n := by rfl) (hst : (assignEach tgs X.env).findIdx? (·.1) = none := by rfl) :
    QG X (.Tuple tgs k pos) (tGF X.K (aTup n gts)) :=
  ⟨pgf_tup (hc := hc) (h := h.o) (hn := hn) (hst := hst)⟩
theorem qpsf_asg {tg : Expr} {gt : Dat → Option Asg} (h : QF X e f) (hg : QG X tg (tGF X.K gt)) (hs : swapsWithSole [tg] e pos.line X.env = pure false := by rfl) (hw : swappedStores [tg] e X.env = pure none := by rfl) (h1 : (assignEach [tg] X.env).map (·.2) = [assign tg X.env] := by rfl) :
    QSF X (.Assign [tg] e pos) (sAsg gt f) :=
  ⟨psf_asg (h := h.o) (hg := hg.o) (hs := hs) (hw := hw) (h1 := h1)⟩
end
section
variable {X : Cx} {st : Stmt} {rest : List Stmt} {e : Expr} {es : List Expr} {f : Rho → Option Dat} {fs : Rho → Option (List Dat)} {ft : Rho → Option Bool} {g g1 g2 : Gam → Option Fl} {pos : Pos}
theorem qpsf_for {tg iter : Expr} {body : List Stmt} {gt : Dat → Option Asg} {gb : Gam → Option Fl} (hp : PassesOwn (model X.prog X.w) X.A X.env X.xe) (hc : X.calm = true) (hi : QF X iter f) (hg : QG X tg (tGF X.K gt)) (hb : QSFs X body gb) (hs : ∀ x, foldedSetIterable iter X.env x = pure x := by intro _; rfl) :
    QSF X (.For tg iter body [] pos) (sFor gt gb f) :=
  ⟨psf_for (hp := hp) (hc := hc) (hi := hi.o) (hg := hg.o) (hb := hb.o) (hs := hs)⟩
theorem qpfl_lst (h : QFA X es fs) :
    QE X (.List es pos) (tFL X.K (fSz fs)) :=
  ⟨pfl_lst (h := h.o)⟩
theorem qpsf_own (i : Nat) {x : Str} {pos' : Pos} (hN : X.N.Nodup) (h : QE X e (tFL X.K fs)) (hi0 : i ≠ 0 := by decide) (hi : X.N[i]? = some x := by rfl) (hx : Loc X.env.scope x := by first | exact .inl rfl | exact .inr rfl) (hs : swapsWith e (some (.Name x pos')) pos.line X.env = pure false := by rfl) (hf : X.fn x = true ∨ X.env.scope.names.lookup x = some .local := by first | exact .inl rfl | exact .inr rfl) :
    QSF X (.Assign [.Name x pos'] e pos) (sOwn i fs) :=
  ⟨psf_own (i := i) (hN := hN) (h := h.o) (hi0 := hi0) (hi := hi) (hx := hx) (hs := hs) (hf := hf)⟩
theorem qpsf_append (i : Nat) {x : Str} {p1 p2 p3 : Pos} (h : QF X e f) (hN : X.N[i]? = some x := by rfl) (hv : Vis X.env.scope x := by first | exact Or.inl rfl | exact Or.inr (Or.inl rfl) | exact Or.inr (Or.inr rfl)) (hd : (x == ("__debug__" : Str)) = false := by decide) (hcd : (x == ("__classdict__" : Str)) = false := by decide) (hbase : attributeBase (.Name x p1) "append" X.env (eval (.Name x p1) X.env) = eval (.Name x p1) X.env := by rfl) (hfew : ((backTo p3 (starEach [e] X.env)).all (fun x => !x.1) && (backToKw p3 (keywordEach [] X.env)).all (fun x => x.1.isSome) && decide (([e] : List Expr).length + ([] : List Keyword).length + (if ([] : List Keyword).isEmpty then 0 else 1) < 30)) = true := by rfl) (hline : (p2.endLine == p3.line) = true := by rfl) (hs1 : starEach [e] X.env = (false, eval e X.env) :: starEach [] X.env := by rfl) (hplain : (backTo p3 (starEach [] X.env)).any (·.1) = false := by rfl) (hs : swapsWith (.Call (.Attribute (.Name x p1) "append" p2) [e] [] p3) none pos.line X.env = pure false := by rfl) :
    QSF X (.Expr (.Call (.Attribute (.Name x p1) "append" p2) [e] [] p3) pos) (sApp i f) :=
  ⟨psf_append (i := i) (h := h.o) (hN := hN) (hv := hv) (hd := hd) (hcd := hcd) (hbase := hbase) (hfew := hfew) (hline := hline) (hs1 := hs1) (hplain := hplain) (hs := hs)⟩
theorem qdn_of {P : Program} {w : World} {K : Fg} {mg : Str → Option Value} {base : Heap} {x qual : Str} {st : Stmt} {fa : Addr} {fd : FuncData} {N ps : List Str} {k n : Nat} {g : Gam → Option Fl} {F : List Dat → Option Dat} (U : Fun K x qual st fa fd) (hm : mg x = some (.ref fa)) (hB : Binds K fd ps []) (S : FnScope N ps (defScope st)) (hn : ps.length = n) (hbody : ∀ (cdv : Value) (A : Around) (outer : List Env) (s : Shared) (H : Hp) (E : XK), Room k (A.deeper (envOfC qual (defScope st) s.heap.objs.size fa cdv)) → QSFs (cxOf CX0 P w K mg base N qual (defScope st) fa cdv A outer s H E).nox (defBody st) g) (hF : ∀ ds d, ds.length = n → F ds = some d → runF N g ds = some d) :
    Dn P w K mg base (k + 1) x ps n F :=
  dn_of (U := U) (hm := hm) (hB := hB) (S := S) (hn := hn) (hbody := (fun a b c d e f g => (hbody a b c d e f g).o)) (hF := hF)
end
section
variable {X : Cx} {a b c e : Expr} {es : List Expr} {pos : Pos} {fa fb fc f : Rho → Option Dat} {fs : Rho → Option (List Dat)} {ft : Rho → Option Bool}
theorem qpf_add (ha : QF X a fa) (hb : QF X b fb) :
    QF X (.BinOp a .Add b pos) (f2 addD fa fb) :=
  ⟨pf_add (ha := ha.o) (hb := hb.o)⟩
theorem qpf_sub (ha : QF X a fa) (hb : QF X b fb) :
    QF X (.BinOp a .Sub b pos) (f2 subD fa fb) :=
  ⟨pf_sub (ha := ha.o) (hb := hb.o)⟩
theorem qpf_mul (ha : QF X a fa) (hb : QF X b fb) :
    QF X (.BinOp a .Mult b pos) (f2 mulD fa fb) :=
  ⟨pf_mul (ha := ha.o) (hb := hb.o)⟩
theorem qpf_neg (ha : QF X a fa) :
    QF X (.UnaryOp .USub a pos) (f1 negD fa) :=
  ⟨pf_neg (ha := ha.o)⟩
theorem qpf_eq {k : Nat} (hr : Room k X.A) (ha : QF X a fa) (hb : QF X b fb) :
    QF X (.Compare a [.Eq] [b] pos) (f2 eqD fa fb) :=
  ⟨pf_eq (hr := hr) (ha := ha.o) (hb := hb.o)⟩
theorem qpft_eq {k : Nat} (hr : Room k X.A) (ha : QF X a fa) (hb : QF X b fb) :
    QFT X (.Compare a [.Eq] [b] pos) (fTest (f2 eqD fa fb)) :=
  ⟨pft_eq (hr := hr) (ha := ha.o) (hb := hb.o)⟩
theorem qpft_ne {k : Nat} (hr : Room k X.A) (ha : QF X a fa) (hb : QF X b fb) :
    QFT X (.Compare a [.NotEq] [b] pos) (fTest (f2 neD fa fb)) :=
  ⟨pft_ne (hr := hr) (ha := ha.o) (hb := hb.o)⟩
theorem qpf_len {p : Pos} (hm : X.mg "len" = none) (ha : QFA X (e :: es) fs) (hg : Gl X "len" := by rfl) (he : starEach (e :: es) X.env = (false, eval e X.env) :: starEach es X.env := by rfl) (hpl : (backTo pos (starEach es X.env)).any (·.1) = false := by rfl) :
    QF X (.Call (.Name "len" p) (e :: es) [] pos) (fCall lenD fs) :=
  ⟨pf_len (hm := hm) (ha := ha.o) (hg := hg) (he := he) (hpl := hpl)⟩
theorem qpf_isinst {p p2 : Pos} (T : String) {TS : Str} (hm : X.mg "isinstance" = none) (hm2 : X.mg TS = none) (ha : QF X a fa) (hv : bootBuiltins TS = some (.type T) := by decide +kernel) (hg : Gl X "isinstance" := by rfl) (hg2 : Gl X TS := by rfl) (hn : TS ≠ "__name__" := by decide) (hdb : (TS == ("__debug__" : Str)) = false := by decide) (he : starEach [a, .Name TS p2] X.env = (false, eval a X.env) :: starEach [.Name TS p2] X.env := by rfl) (he2 : starEach [.Name TS p2] X.env = (false, eval (.Name TS p2) X.env) :: starEach [] X.env := by rfl) (hpl : (backTo pos (starEach [.Name TS p2] X.env)).any (·.1) = false := by rfl) :
    QF X (.Call (.Name "isinstance" p) [a, .Name TS p2] [] pos) (f1 (isD T) fa) :=
  ⟨pf_isinst (T := T) (hm := hm) (hm2 := hm2) (ha := ha.o) (hv := hv) (hg := hg) (hg2 := hg2) (hn := hn) (hdb := hdb) (he := he) (he2 := he2) (hpl := hpl)⟩
theorem qpf_ix (ha : QF X a fa) (hb : QF X b fb) (hs : PlainIx b := by exact fun _ _ => rfl) :
    QF X (.Subscript a b pos) (f2 ixD fa fb) :=
  ⟨pf_ix (ha := ha.o) (hb := hb.o) (hs := hs)⟩
theorem qpfo_none  :
    QFO X none oNone :=
  ⟨pfo_none ⟩
theorem qpfo_some (h : QF X e f) :
    QFO X (some e) (oSome f) :=
  ⟨pfo_some (h := h.o)⟩
theorem qpfl_comp {tg iter elt : Expr} {ifs : List Expr} {scope : Scope} {cl : List (Str × Addr)} {N' : List Str} {cap : List (Option Nat)} {gt : Dat → Option Asg} {fe fi : Rho → Option Dat} (hc : X.calm = true) (B : Blk X scope cl N' cap) (hi : QF X iter fi) (hg : ∀ C s₀ H₀ ex, QG (blk X scope cl N' C s₀ H₀ ex) tg (tGF X.K gt)) (ht : ∀ C s₀ H₀ ex, QTs (blk X scope cl N' C s₀ H₀ ex) ifs (tTF X.K ft)) (he : ∀ C s₀ H₀ ex, QF (blk X scope cl N' C s₀ H₀ ex) elt fe) (hT : TgOk gt cap) (hs : ∀ x, foldedSetIterable iter X.env x = pure x := by intro _; rfl) :
    QE X (.ListComp elt [⟨tg, iter, ifs, 0⟩] scope pos) (tFL X.K (fComp cap gt ft fe fi)) :=
  ⟨pfl_comp (hc := hc) (B := B) (hi := hi.o) (hg := (fun C s₀ H₀ ex => (hg C s₀ H₀ ex).o)) (ht := (fun C s₀ H₀ ex => (ht C s₀ H₀ ex).o)) (he := (fun C s₀ H₀ ex => (he C s₀ H₀ ex).o)) (hT := hT) (hs := hs)⟩
theorem qpf_of_l (h : QE X e (tFL X.K fs)) :
    QF X e (fL fs) :=
  ⟨pf_of_l (h := h.o)⟩
theorem qptsf_nil  :
    QTs X [] (tTF X.K tYesF) :=
  ⟨ptsf_nil ⟩
end
section
variable {X : Cx} {a b c e : Expr} {pos : Pos} {fa fb fc f : Rho → Option Dat} {fs : Rho → Option (List Dat)}
theorem qpfl_list {p : Pos} {es : List Expr} (hm : X.mg "list" = none) (ha : QFA X (e :: es) fs) (hg : Gl X "list" := by rfl) (he : starEach (e :: es) X.env = (false, eval e X.env) :: starEach es X.env := by rfl) (hpl : (backTo pos (starEach es X.env)).any (·.1) = false := by rfl) :
    QE X (.Call (.Name "list" p) (e :: es) [] pos) (tFL X.K fun ρ => (fs ρ).bind listD) :=
  ⟨pfl_list (hm := hm) (ha := ha.o) (hg := hg) (he := he) (hpl := hpl)⟩
theorem qpf_tuple {p : Pos} {es : List Expr} (hm : X.mg "tuple" = none) (ha : QFA X (e :: es) fs) (hg : Gl X "tuple" := by rfl) (he : starEach (e :: es) X.env = (false, eval e X.env) :: starEach es X.env := by rfl) (hpl : (backTo pos (starEach es X.env)).any (·.1) = false := by rfl) :
    QF X (.Call (.Name "tuple" p) (e :: es) [] pos) (fCall tupleD fs) :=
  ⟨pf_tuple (hm := hm) (ha := ha.o) (hg := hg) (he := he) (hpl := hpl)⟩
end
section
variable {X : Cx} {e : Expr} {f : Rho → Option Dat} {pos : Pos}
theorem qpf_globT {x : Str} {a : Addr} {ds : List Dat} {p : Pos} (hm : X.mg x = some (.ref a)) (ht : ModT X.K a ds) (hg : Gl X x := by rfl) (hd : (x == ("__debug__" : Str)) = false := by decide) :
    QF X (.Name x p) (fC (.tuple ds)) :=
  ⟨pf_globT (hm := hm) (ht := ht) (hg := hg) (hd := hd)⟩
end
section
variable {X : Cx} {e : Expr} {es : List Expr} {fs : Rho → Option (List Dat)} {f : Rho → Option Dat} {pos : Pos}
theorem qpf_all {p : Pos} (hc : X.calm = true) (hm : X.mg "all" = none) (ha : QFA X (e :: es) fs) (hg : Gl X "all" := by rfl) (he : starEach (e :: es) X.env = (false, eval e X.env) :: starEach es X.env := by rfl) (hpl : (backTo pos (starEach es X.env)).any (·.1) = false := by rfl) :
    QF X (.Call (.Name "all" p) (e :: es) [] pos) (fCall allD fs) :=
  ⟨pf_all (hc := hc) (hm := hm) (ha := ha.o) (hg := hg) (he := he) (hpl := hpl)⟩
end
section
variable {X : Cx} {a b c e : Expr} {es : List Expr} {pos : Pos} {f : Rho → Option Dat} {ft : Rho → Option Bool} {ha hb h : HF} {hs : Gam → Option (List Dat × Gam)} {ht : Gam → Option (Bool × Gam)} {g1 g2 : Gam → Option Fl}
theorem qph_pure (hP : QF X e f) :
    QH X e (hPure f) :=
  ⟨ph_pure (hP := hP.o)⟩
theorem qph_add (pa : QH X a ha) (pb : QH X b hb) :
    QH X (.BinOp a .Add b pos) (h2 addD ha hb) :=
  ⟨ph_add (pa := pa.o) (pb := pb.o)⟩
theorem qph_sub (pa : QH X a ha) (pb : QH X b hb) :
    QH X (.BinOp a .Sub b pos) (h2 subD ha hb) :=
  ⟨ph_sub (pa := pa.o) (pb := pb.o)⟩
theorem qpht_gt (pa : QH X a ha) (pb : QH X b hb) :
    QHT X (.Compare a [.Gt] [b] pos) (hTest (h2 gtD ha hb)) :=
  ⟨pht_gt (pa := pa.o) (pb := pb.o)⟩
theorem qpht_eq {k : Nat} (hr : Room k X.A) (pa : QH X a ha) (pb : QH X b hb) :
    QHT X (.Compare a [.Eq] [b] pos) (hTest (h2 eqD ha hb)) :=
  ⟨pht_eq (hr := hr) (pa := pa.o) (pb := pb.o)⟩
theorem qph_ix (pa : QH X a ha) (pb : QH X b hb) (hs : PlainIx b := by exact fun _ _ => rfl) :
    QH X (.Subscript a b pos) (h2 ixD ha hb) :=
  ⟨ph_ix (pa := pa.o) (pb := pb.o) (hs := hs)⟩
theorem qpha_nil  :
    QHA X [] hNil :=
  ⟨pha_nil ⟩
theorem qpha_cons (pa : QH X e h) (pr : QHA X es hs) (hst : starEach (e :: es) X.env = (false, eval e X.env) :: starEach es X.env := by rfl) :
    QHA X (e :: es) (hCons h hs) :=
  ⟨pha_cons (pa := pa.o) (pr := pr.o) (hst := hst)⟩
theorem qph_tup (pa : QHA X es hs) {x1} :
    QH X (.Tuple es x1 pos) (hTup hs) :=
  ⟨ph_tup (pa := pa.o)⟩
theorem qph_lst (pa : QHA X es hs) :
    QH X (.List es pos) (hLst hs) :=
  ⟨ph_lst (pa := pa.o)⟩
theorem qph_fn {x : Str} {p : Pos} {k n : Nat} {ps : List Str} {F : List Dat → Option Dat} (D : Dn X.prog X.w X.K X.mg X.base k x ps n F) (hr : Room k X.A) (pa : QHA X (e :: es) hs) (hg : Gl X x := by rfl) (hdb : (x == ("__debug__" : Str)) = false := by decide) (he : starEach (e :: es) X.env = (false, eval e X.env) :: starEach es X.env := by rfl) (hpl : (backTo pos (starEach es X.env)).any (·.1) = false := by rfl) :
    QH X (.Call (.Name x p) (e :: es) [] pos) (hFn n F hs) :=
  ⟨ph_fn (D := D) (hr := hr) (pa := pa.o) (hg := hg) (hdb := hdb) (he := he) (hpl := hpl)⟩
theorem qph_mut (i : Nat) {x y : Str} {p p1 : Pos} {k n : Nat} {ps : List Str} {F : List Dat → List Dat → Option (Dat × List Dat)} (D : DnM X.prog X.w X.K X.mg X.base k x ps n F) (hr : Room k X.A) (pa : QHA X es hs) (hN : X.N[i]? = some y := by rfl) (hv : Vis X.env.scope y := by first | exact Or.inl rfl | exact Or.inr (Or.inl rfl) | exact Or.inr (Or.inr rfl)) (hd : (y == ("__debug__" : Str)) = false := by decide) (hcd : (y == ("__classdict__" : Str)) = false := by decide) (hg : Gl X x := by rfl) (hdb : (x == ("__debug__" : Str)) = false := by decide) (he : starEach (.Name y p1 :: es) X.env = (false, eval (.Name y p1) X.env) :: starEach es X.env := by rfl) (hpl : (backTo pos (starEach es X.env)).any (·.1) = false := by rfl) :
    QH X (.Call (.Name x p) (.Name y p1 :: es) [] pos) (hMut i n F hs) :=
  ⟨ph_mut (i := i) (D := D) (hr := hr) (pa := pa.o) (hN := hN) (hv := hv) (hd := hd) (hcd := hcd) (hg := hg) (hdb := hdb) (he := he) (hpl := hpl)⟩
theorem qdnM_of {P : Program} {w : World} {K : Fg} {mg : Str → Option Value} {base : Heap} {x qual : Str} {st : Stmt} {fa : Addr} {fd : FuncData} {N ps : List Str} {k n : Nat} {g : Gam → Option Fl} {F : List Dat → List Dat → Option (Dat × List Dat)} (U : Fun K x qual st fa fd) (hm : mg x = some (.ref fa)) (hB : Binds K fd ps []) (S : FnScope N ps (defScope st)) (hn : ps.length = n) (hbody : ∀ (cdv : Value) (A : Around) (outer : List Env) (s : Shared) (H : Hp) (E : XK), Room k (A.deeper (envOfC qual (defScope st) s.heap.objs.size fa cdv)) → QSFs (cxOf CX0 P w K mg base N qual (defScope st) fa cdv A outer s H E).nox (defBody st) g) (hF : ∀ ds es d ds', es.length + 1 = n → F ds es = some (d, ds') → runM N g ds es = some (d, ds')) :
    DnM P w K mg base (k + 1) x ps n F :=
  dnM_of (U := U) (hm := hm) (hB := hB) (S := S) (hn := hn) (hbody := (fun a b c d e f g => (hbody a b c d e f g).o)) (hF := hF)
theorem qpsf_setH (i : Nat) {x : Str} {pos' : Pos} (hN : X.N.Nodup) (pe : QH X e h) (hi : X.N[i]? = some x := by rfl) (hx : Loc X.env.scope x := by first | exact .inl rfl | exact .inr rfl) (hs : swapsWith e (some (.Name x pos')) pos.line X.env = pure false := by rfl) (hf : X.fn x = true ∨ X.env.scope.names.lookup x = some .local := by first | exact .inl rfl | exact .inr rfl) :
    QSF X (.Assign [.Name x pos'] e pos) (sSetH i h) :=
  ⟨psf_setH (i := i) (hN := hN) (pe := pe.o) (hi := hi) (hx := hx) (hs := hs) (hf := hf)⟩
theorem qpsf_asgH {tg : Expr} {gt : Dat → Option Asg} (pe : QH X e h) (hg : QG X tg (tGF X.K gt)) (hs : swapsWithSole [tg] e pos.line X.env = pure false := by rfl) (hw : swappedStores [tg] e X.env = pure none := by rfl) (h1 : (assignEach [tg] X.env).map (·.2) = [assign tg X.env] := by rfl) :
    QSF X (.Assign [tg] e pos) (sAsgH gt h) :=
  ⟨psf_asgH (pe := pe.o) (hg := hg.o) (hs := hs) (hw := hw) (h1 := h1)⟩
theorem qpsf_retM (pe : QH X e h) :
    QSF X (.Return (some e) pos) (sRetM h) :=
  ⟨psf_retM (pe := pe.o)⟩
theorem qpsf_ifH {c : Expr} {a b : List Stmt} (hc : QHT X c ht) (pa : QSFs X a g1) (pb : QSFs X b g2) :
    QSF X (.If c a b pos) (sIfH ht g1 g2) :=
  ⟨psf_ifH (hc := hc.o) (pa := pa.o) (pb := pb.o)⟩
theorem qpfl_new {x : Str} {p : Pos} {k n : Nat} {ps : List Str} {F : List Dat → Option (List Dat)} {fs : Rho → Option (List Dat)} (D : DnN X.prog X.w X.K X.mg X.base k x ps n F) (hr : Room k X.A) (pa : QFA X (e :: es) fs) (hg : Gl X x := by rfl) (hdb : (x == ("__debug__" : Str)) = false := by decide) (he : starEach (e :: es) X.env = (false, eval e X.env) :: starEach es X.env := by rfl) (hpl : (backTo pos (starEach es X.env)).any (·.1) = false := by rfl) :
    QE X (.Call (.Name x p) (e :: es) [] pos) (tFL X.K (fNew n F fs)) :=
  ⟨pfl_new (D := D) (hr := hr) (pa := pa.o) (hg := hg) (hdb := hdb) (he := he) (hpl := hpl)⟩
end
section
variable {X : Cx} {tg iter a b c e : Expr} {pos : Pos} {f fa fb : Rho → Option Dat} {fs : Rho → Option (List Dat)} {fi : Rho → Option (List Dat)} {gt : Dat → Option Asg} {gb : Gam → Option Fl}
theorem qpfl_compI {elt : Expr} {ifs : List Expr} {scope : Scope} {cl : List (Str × Addr)} {N' : List Str} {cap : List (Option Nat)} {ft : Rho → Option Bool} {fe : Rho → Option Dat} (hc : X.calm = true) (B : Blk X scope cl N' cap) (hi : QIF X tg iter fi) (hg : ∀ C s₀ H₀ ex, QG (blk X scope cl N' C s₀ H₀ ex) tg (tGF X.K gt)) (ht : ∀ C s₀ H₀ ex, QTs (blk X scope cl N' C s₀ H₀ ex) ifs (tTF X.K ft)) (he : ∀ C s₀ H₀ ex, QF (blk X scope cl N' C s₀ H₀ ex) elt fe) (hT : TgOk gt cap) (hs : ∀ x, foldedSetIterable iter X.env x = pure x := by intro _; rfl) :
    QE X (.ListComp elt [⟨tg, iter, ifs, 0⟩] scope pos) (tFL X.K (fCompI cap gt ft fe fi)) :=
  ⟨pfl_compI (hc := hc) (B := B) (hi := hi.o) (hg := (fun C s₀ H₀ ex => (hg C s₀ H₀ ex).o)) (ht := (fun C s₀ H₀ ex => (ht C s₀ H₀ ex).o)) (he := (fun C s₀ H₀ ex => (he C s₀ H₀ ex).o)) (hT := hT) (hs := hs)⟩
end
section
variable {X : Cx} {a b : Expr} {pos : Pos} {fs : Rho → Option (List Dat)}
theorem qpif_zip {tgs : List Expr} {kt : Nat} {pt p : Pos} (hm : X.mg "zip" = none) (ha : QFA X [a, b] fs) (hg : Gl X "zip" := by rfl) (hs : starEach [a, b] X.env = [(false, eval a X.env), (false, eval b X.env)] := by rfl) (hs2 : starEach [b] X.env = [(false, eval b X.env)] := by rfl) :
    QIF X (.Tuple tgs kt pt) (.Call (.Name "zip" p) [a, b] [] pos) (iZipD fs) :=
  ⟨pif_zip (hm := hm) (ha := ha.o) (hg := hg) (hs := hs) (hs2 := hs2)⟩
end
theorem qok_of {P : Program} {w : World} {K : Fg} {mg : Str → Option Value} {base : Heap} {x qual : Str} {st : Stmt} {fa : Addr} {fd : FuncData} {N ps : List Str} {k n : Nat} {g : Gam → Option Fl} {F : List Dat → Option Dat}
    (U : Fun K x qual st fa fd) (S : FnScope N ps (defScope st)) (hn : ps.length = n)
    (hbody : ∀ (cdv : Value) (A : Around) (outer : List Env) (s : Shared) (H : Hp) (E : XK), Room k (A.deeper (envOfC qual (defScope st) s.heap.objs.size fa cdv)) → QSFs (cxOf CX0 P w K mg base N qual (defScope st) fa cdv A outer s H E).nox (defBody st) g)
    (hF : ∀ ds d, ds.length = n → F ds = some d → runF N g ds = some d) : FnOk P w K mg base CX0 (k + 1) fa fd ps (spF K n F) := by
  have hpl : ps.length ≤ N.length := by have := congrArg List.length S.pre; rw [List.length_take] at this; omega
  refine U.ok S (fun vs H Q E h => ?_) (fun cdv A outer s H vs Q E hr h => ?_)
  · obtain ⟨Av, ds, d, _, r, hl, _⟩ := h
    rw [r.length, hl, hn]
  · obtain ⟨Av, ds, d, hA, r, hl, hd, q⟩ := h
    have hd' := hF ds d hl hd
    unfold runF at hd'
    refine ⟨_, (hbody cdv A outer s H E hr).o, ?_⟩
    cases hg : g (startG N ds) with
    | none => rw [hg] at hd'; cases hd'
    | some fl =>
      refine ⟨H, Av, none, [], startG N ds, fl, ga_start hA r (by omega), hg, ?_⟩
      rw [hg] at hd'
      cases fl with
      | nx Γ => cases hd'; exact fun σ' H' ⟨ad, G⟩ => q _ H' G.same .non
      | rt d' => cases hd'; exact fun v H' s r => q v H' s r
      | bk Γ => cases hd'
      | ct Γ => cases hd'
      | rm d' Γ => cases hd'
end L3
namespace L3
open PySem PySem.Spec PyProof.Rows L2
open PySem.W (Dat kqdOk)
section
variable {X : Cx} {a b e : Expr} {pos : Pos} {f fa fb : Rho → Option Dat} {ha hb : HF}
def slU : Dat → Option Int → Option Int → Option Dat
  | .list ds, lo, hi => some (.list (cutD ds lo hi))
  | .tuple ds, lo, hi => if ¬ (HT.sIx ds.length 0 lo = 0 ∧ HT.sIx ds.length ds.length hi = ds.length) then some (.tuple (cutD ds lo hi)) else none
  | _, _, _ => none
def fSlU (f : Rho → Option Dat) (fl fh : Rho → Option (Option Int)) : Rho → Option Dat := fun ρ => (f ρ).bind fun d => (fl ρ).bind fun l => (fh ρ).bind fun h => slU d l h
theorem pf_sliceU {lo hi : Option Expr} {fl fh : Rho → Option (Option Int)} {p2 : Pos} (h : PF X e f) (hl : PFO X lo fl) (hh : PFO X hi fh) : PF X (.Subscript e (.Slice lo hi none p2) pos) (fSlU f fl fh) := pe_mono (pe_slice (sl_list.or sl_tup) h hl hh) fun σ H Q ⟨Av, ρ, d, hA, hE, hf, q⟩ => by
  obtain ⟨dx, e1, hf⟩ := bind_some hf
  obtain ⟨l, e2, hf⟩ := bind_some hf
  obtain ⟨u, e3, hf⟩ := bind_some hf
  refine ⟨Av, ρ, _, hA, hE, e1, fun x H1 s1 r1 => ⟨Av, ρ, l, hA.same s1, hE.same s1, e2, fun H2 s2 => ⟨Av, ρ, u, hA.same (s1.trans s2), hE.same (s1.trans s2), e3, fun H3 s3 => ?_⟩⟩⟩
  have sa := s1.trans (s2.trans s3)
  unfold slU at hf
  split at hf
  · cases hf
    obtain ⟨a, xs, rfl, hq, rs⟩ := (r1.same (s2.trans s3)).l_inv
    refine .inl ⟨a, xs, rfl, hq.sq, fun p hp => q _ _ (sa.trans (same_new hp _)) (.newL (hA.same sa) hp ?_)⟩
    unfold cutV cutD
    rw [rs.length]
    exact (rs.drop _).take _
  · split at hf
    · rename_i hw
      cases hf
      obtain ⟨a, xs, rfl, hq, rs⟩ := (r1.same (s2.trans s3)).t_inv
      refine .inr ⟨a, xs, rfl, hq.sq, by rw [rs.length]; exact hw, fun p hp => q _ _ (sa.trans (same_new hp _)) (.newT (hA.same sa) hp ?_)⟩
      unfold cutV cutD
      rw [rs.length]
      exact (rs.drop _).take _
    · cases hf
  · cases hf
theorem qpf_sliceU {lo hi : Option Expr} {fl fh : Rho → Option (Option Int)} {p2 : Pos} (h : QF X e f) (hl : QFO X lo fl) (hh : QFO X hi fh) : QF X (.Subscript e (.Slice lo hi none p2) pos) (fSlU f fl fh) := ⟨pf_sliceU h.o hl.o hh.o⟩
def rCatU (K : Fg) : R2 := fun x y H Q => ∃ l b xs zs, x = .ref l ∧ y = .ref b ∧ SqT K H l xs ∧ SqT K H b zs ∧ xs.length + zs.length ≤ sizeLine ∧ (xs = [] → Q (.ref b) H) ∧ (xs ≠ [] → zs = [] → Q (.ref l) H) ∧ (xs ≠ [] → zs ≠ [] → ∀ p, H p = none → Q (.ref p) (upd H p (.tup (xs ++ zs))))
theorem op_catU : OpR X (binaryOp .Add) (rCatU X.K) := by
  intro pins s σ H x y v u Q I rx ry h
  obtain ⟨l, b, xs, zs, rfl, rfl, hH, hB, hz, q0, q1, q2⟩ := h
  cases rx
  cases ry
  obtain ⟨its, r, p1, _⟩ := I.tuple hH
  obtain ⟨its2, r2, p2, _⟩ := I.tuple hB
  obtain ⟨⟨cls, dd, data, sl⟩, ho, hc, n, hd⟩ := p1
  obtain ⟨⟨cls2, dd2, data2, sl2⟩, ho2, hc2, n2, hd2⟩ := p2
  simp only at hc hd hc2 hd2
  subst hc hd hc2 hd2
  have h1 := r.length
  have h2 := r2.length
  have e : its.toArray ++ its2.toArray = (its ++ its2).toArray := by simp
  have nf := PySem.noFill_tuple_add
  have sa := PySem.seq_tuple_add
  by_cases hv : its = []
  · have hx : xs = [] := r.nil_iff.mp hv
    exact concat_meets ⟨_, ho, rfl⟩ ⟨_, ho2, rfl⟩ nf sa F.slot_tuple_add F.entry_tuple_add (F.args_tuple_add_2 _ _) (tuple_addW0 l b its.toArray its2.toArray n n2 dd dd2 sl sl2 (by simp [hv])) ⟨ho, ho2, ⟨.ref b, H, I, rfl, q0 hx⟩⟩
  · have hx : xs ≠ [] := fun z => hv (r.nil_iff.mpr z)
    by_cases hw : its2 = []
    · have hy : zs = [] := r2.nil_iff.mp hw
      exact concat_meets ⟨_, ho, rfl⟩ ⟨_, ho2, rfl⟩ nf sa F.slot_tuple_add F.entry_tuple_add (F.args_tuple_add_2 _ _) (tuple_addW1 l b its.toArray its2.toArray n n2 dd dd2 sl sl2 (by simpa using hv) (by simp [hw])) ⟨ho, ho2, ⟨.ref l, H, I, rfl, q1 hx hy⟩⟩
    · have hy : zs ≠ [] := fun z => hw (r2.nil_iff.mpr z)
      refine concat_meets ⟨_, ho, rfl⟩ ⟨_, ho2, rfl⟩ nf sa F.slot_tuple_add F.entry_tuple_add (F.args_tuple_add_2 _ _) (tuple_addW2 l b its.toArray its2.toArray n n2 dd dd2 sl sl2 (by simpa using hv) (by simpa using hw) (by rw [List.size_toArray, List.size_toArray]; omega)) ⟨ho, ho2, ?_⟩
      rw [e]
      refine ⟨.ref s.heap.objs.size, upd H s.heap.objs.size (.tup (xs ++ zs)), I.laid (t' := s.toks) (fun b u e => Heap.get?_push_of_some _ e) (Nat.le_refl _) ?_, rfl, q2 hx hy _ I.fresh⟩
      exact ⟨by rw [List.length_append]; exact hz, _, r.append r2, ⟨_, Heap.get?_push_size _ rfl, rfl, _, rfl⟩⟩
def addU : Dat → Dat → Option Dat
  | .list xs, .list ys => if xs.length + ys.length ≤ sizeLine then some (.list (xs ++ ys)) else none
  | .tuple xs, .tuple ys => if xs.length + ys.length ≤ sizeLine then some (.tuple (xs ++ ys)) else none
  | x, y => addD x y
theorem opD_addU : OpD X.K (fun x y H Q => (rCatS X.K x y H Q ∨ rCatU X.K x y H Q) ∨ ((∃ i j, x = .int i ∧ y = .int j ∧ Q (.int (i + j)) H) ∨ ∃ i j, x = .str i ∧ y = .str j ∧ i.length + j.length ≤ sizeLine ∧ Q (.str (i ++ j)) H)) addU := by
  intro H Av x y dx dy d Q hA rx ry h q
  unfold addU at h
  split at h
  · split at h
    · rename_i hz
      cases h
      obtain ⟨l, xs, rfl, hq, rs⟩ := rx.l_inv
      obtain ⟨m, ys, rfl, hq2, rs2⟩ := ry.l_inv
      exact .inl (.inl ⟨l, m, xs, ys, rfl, rfl, hq.sq, hq2.sq, by rw [rs.length, rs2.length]; exact hz, fun p hp => q _ _ (same_new hp _) (.newL hA hp (rs.append rs2))⟩)
    · cases h
  · split at h
    · rename_i hz
      cases h
      obtain ⟨l, xs, rfl, hq, rs⟩ := rx.t_inv
      obtain ⟨m, ys, rfl, hq2, rs2⟩ := ry.t_inv
      refine .inl (.inr ⟨l, m, xs, ys, rfl, rfl, hq.sq, hq2.sq, by rw [rs.length, rs2.length]; exact hz, fun e => ?_, fun _ e => ?_, fun _ _ p hp => q _ _ (same_new hp _) (.newT hA hp (rs.append rs2))⟩)
      · subst e
        cases rs
        exact q _ H (Same.refl H) (.tup hq2 rs2)
      · subst e
        cases rs2
        rw [List.append_nil] at q
        exact q _ H (Same.refl H) (.tup hq rs)
    · cases h
  · unfold addD at h
    split at h
    · cases h
      exact .inr (.inl ⟨_, _, rx.i_inv, ry.i_inv, q _ H (Same.refl H) (.int _)⟩)
    · split at h
      · rename_i hz
        cases h
        exact .inr (.inr ⟨_, _, rx.s_inv, ry.s_inv, hz, q _ H (Same.refl H) (.str _)⟩)
      · cases h
    · cases h
theorem qpf_addU (pa : QF X a fa) (pb : QF X b fb) : QF X (.BinOp a .Add b pos) (f2 addU fa fb) := ⟨pf_bin ((op_catS.or op_catU).or (op_add.or op_add_str)) opD_addU pa.o pb.o⟩
theorem qph_addU (pa : QH X a ha) (pb : QH X b hb) : QH X (.BinOp a .Add b pos) (h2 addU ha hb) := ⟨ph_bin ((op_catS.or op_catU).or (op_add.or op_add_str)) opD_addU pa.o pb.o⟩
end
end L3
namespace L3
open PySem PySem.Spec PyProof.Rows L2
open PySem.W (Dat kqdOk)
section
variable {X : Cx} {e a b : Expr} {pos : Pos} {f fb : Rho → Option Dat} {fs gs : Rho → Option (List Dat)}
def noL : Nat → Dat → Bool
  | 0, _ => false
  | n + 1, d => match d with
    | .list _ => false
    | .tuple ds => ds.all (noL n)
    | .none => true
    | .bool _ => true
    | .int _ => true
    | .str _ => true
    | _ => false
theorem RepD.apart {K : Fg} {H₀ H H' : Hp} {Av : AvP} {pn : Option Addr} {hid : Hid} {σ : L2.St} {Γ : Gam} {ad : Nat → Addr} (G : GA K H₀ Av pn hid H σ Γ ad) (s : Same H H') : ∀ (n : Nat) {v : V} {d : Dat}, noL n d = true → RepD K H' Av v d → RepD K H' (AvG Av Γ ad) v d
  | 0, v, d, h, _ => by cases h
  | n + 1, v, d, h, r => by
    cases r with
    | non => exact .non
    | bl b => exact .bl b
    | int i => exact .int i
    | str x => exact .str x
    | @tup a xs ds hq rs =>
      have hall : ds.all (noL n) = true := h
      have rs' : RepDs K H' (AvG Av Γ ad) xs ds := by
        clear hq h
        induction xs generalizing ds with
        | nil => cases rs; exact .nil
        | cons x xs ih =>
          cases rs with
          | cons r1 r2 =>
            rw [List.all_cons, Bool.and_eq_true] at hall
            exact .cons (RepD.apart G s n hall.1 r1) (ih r2 hall.2)
      refine .tup ?_ rs'
      rcases hq with ⟨h1, h2⟩ | h1
      · refine .inl ⟨h1, ?_⟩
        rintro (z | ⟨i, sl, ei, mi, z⟩)
        · exact h2 z
        · cases sl with
          | imm d => cases mi
          | own es =>
            obtain ⟨ys, _, hl, _⟩ := G.own i es ei
            have hl' := s _ _ hl
            rw [z] at hl'
            rcases h1 with h1 | ⟨o, h1⟩
            · rw [h1] at hl'; cases hl'
            · rw [h1] at hl'; cases hl'
          | obj O es =>
            obtain ⟨ys, _, hl, _⟩ := G.obj i O es ei
            have hl' := s _ _ hl
            rw [z] at hl'
            rcases h1 with h1 | ⟨o, h1⟩
            · rw [h1] at hl'; cases hl'
            · rw [h1] at hl'; cases hl'
      · exact .inr h1
    | lst _ _ => cases h
end
end L3
namespace L3
open PySem PySem.Spec PyProof.Rows L2
open PySem.W (Dat kqdOk)
section
variable {X : Cx} {tg iter a b c e : Expr} {pos : Pos} {f fa fb : Rho → Option Dat} {fs : Rho → Option (List Dat)} {fi : Rho → Option (List Dat)} {gt : Dat → Option Asg} {gb : Gam → Option Fl} {hI hs : Gam → Option (List Dat × Gam)}
def tIH (K : Fg) (hI : Gam → Option (List Dat × Gam)) : TI := fun σ H R => ∃ H₀ Av pn hid Γ ad its Γ', GA K H₀ Av pn hid H σ Γ ad ∧ hI Γ = some (its, Γ') ∧ ∀ J xs dxs H1 ad1, GA K H₀ Av pn hid H1 σ Γ' ad1 → RepDs K H1 (AvG Av Γ' ad1) xs dxs → OverS K J xs dxs its → R J H1
abbrev QIH (X : Cx) (tg iter : Expr) (hI : Gam → Option (List Dat × Gam)) : Prop := QI X tg iter (tIH X.K hI)
def hRng (rg : List Dat → Option (List Dat)) (hs : Gam → Option (List Dat × Gam)) : Gam → Option (List Dat × Gam) := fun Γ => (hs Γ).bind fun p => (rg p.1).map fun its => (its, p.2)
theorem qpih_range1 {p pos' : Pos} (hm : X.mg "range" = none) (ha : QHA X [a] hs) (hgl : Gl X "range" := by rfl) (hst : starEach [a] X.env = [(false, eval a X.env)] := by rfl) : QIH X tg (.Call (.Name "range" p) [a] [] pos') (hRng rng1 hs) := ⟨pi_mono (pi_range1 hgl hm ha.o hst) fun σ H R ⟨H₀, Av, pn, hid, Γ, ad, its, Γ', G, hf, q⟩ => by
  obtain ⟨⟨as, Γ1⟩, e1, hf⟩ := bind_some hf
  obtain ⟨its', e2, hf⟩ := map_some' hf
  obtain ⟨h1, h2⟩ := Prod.mk.inj hf
  subst h1 h2
  refine ⟨H₀, Av, pn, hid, Γ, ad, as, Γ1, G, e1, fun vs H1 ad1 G1 r => ?_⟩
  dsimp only at e2
  unfold rng1 at e2
  split at e2
  · rename_i j
    split at e2
    · rename_i hj
      cases e2
      obtain ⟨v, rfl, rv⟩ := r.one_inv
      rw [rv.i_inv]
      exact ⟨_, rfl, hj.1, hj.2, q _ [.non] [.none] H1 ad1 G1 (.cons .non .nil) over_range.s⟩
    · cases e2
  · cases e2⟩
end
end L3
namespace L3
open PySem PySem.Spec PyProof.Rows L2
open PySem.W (Dat kqdOk)
section
variable {X : Cx} {a b e e0 : Expr} {es : List Expr} {pos : Pos} {fa fb f : Rho → Option Dat} {f0 fs : Rho → Option (List Dat)}
theorem op_notU : OpR X (compareOp .IsNot) (fun x y H Q => ∃ j, y = .bl j ∧ ((∃ i, x = .bl i ∧ Q (.bl (!decide (i = j))) H) ∨ (∃ a, x = .ref a ∧ Q (.bl true) H))) := by
  intro pins s σ H x y v u Q I rx ry h
  obtain ⟨j, rfl, h⟩ := h
  cases ry
  rcases h with ⟨i, rfl, q⟩ | ⟨a, rfl, q⟩
  · cases rx
    cases i <;> cases j <;> exact wpAny_pure (fin_bl I q rfl)
  · cases rx
    cases j <;> exact wpAny_pure (fin_bl I q rfl)
def notUD : Dat → Dat → Option Dat
  | .bool i, .bool j => some (.bool (!decide (i = j)))
  | .tuple _, .bool _ => some (.bool true)
  | _, _ => none
theorem opD_notU : OpD X.K (fun x y H Q => ∃ j, y = .bl j ∧ ((∃ i, x = .bl i ∧ Q (.bl (!decide (i = j))) H) ∨ (∃ a, x = .ref a ∧ Q (.bl true) H))) notUD := by
  intro H Av x y dx dy d Q hA rx ry h q
  unfold notUD at h
  split at h
  · cases h; exact ⟨_, ry.b_inv, .inl ⟨_, rx.b_inv, q _ H (Same.refl H) (.bl _)⟩⟩
  · cases h
    obtain ⟨a, xs, rfl, _⟩ := rx.t_inv
    exact ⟨_, ry.b_inv, .inr ⟨a, rfl, q _ H (Same.refl H) (.bl _)⟩⟩
  · cases h
theorem qpft_notU (pa : QF X a fa) (pb : QF X b fb) : QFT X (.Compare a [.IsNot] [b] pos) (fTest (f2 notUD fa fb)) := ⟨pft_cmp op_notU opD_notU pa.o pb.o (nomark _)⟩
end
end L3
namespace L3
open PySem PySem.Spec PyProof.Rows L2
open PySem.W (Dat kqdOk)
structure FnAt (K : Fg) (mg : Str → Option Value) (x : Str) (st : Stmt) (ps : List Str) : Prop where
  ex : ∃ f fd, Fun K x x st f fd ∧ mg x = some (.ref f) ∧ Binds K fd ps []
section
variable {P : Program} {w : World} {K : Fg} {mg : Str → Option Value} {base : Heap} {x : Str} {st : Stmt} {ps : List Str} {k n : Nat}
theorem fnat {h : Heap} {f : Addr} {oc : Value} {od an : Option Addr} {osl : Array (Option Value)} {kV doc pm cdv ct : Value} (X : K.In h) (G : h.Ns mainGlobals mg) (a : PySem.W.nsIn K mainGlobals x = some (some (.ref f))) (l : K.lookup f = some ⟨oc, od, .func (PySem.W.fnOf x x (defArgs st) (defBody st) (defScope st) .none kV doc pm an cdv ct), osl⟩)
    (c : PySem.W.codeIn K cdv x = true) (k : PySem.W.keepIn K (.ref f) = true) (b : ∀ (kV doc pm : Value) (an : Option Addr) (cdv ct : Value) (us : List Value), us.length = ps.length → bindArgs (PySem.W.fnOf x x (defArgs st) (defBody st) (defScope st) .none kV doc pm an cdv ct) ⟨us, []⟩ = pure (ps.zip us)) : FnAt K mg x st ps :=
  ⟨⟨_, _, fun_mk l c k, PySem.W.mg_of X G a, (fun_mk l c k).binds b⟩⟩
theorem qdnA (N : List Str) (U : FnAt K mg x st ps) {g : Gam → Option Fl} (hbody : N.Nodup → ∀ (fa : Addr) (cdv : Value) (A : Around) (outer : List Env) (s : Shared) (H : Hp) (E : XK), Room k (A.deeper (envOfC x (defScope st) s.heap.objs.size fa cdv)) → QSFs (cxOf CX0 P w K mg base N x (defScope st) fa cdv A outer s H E).nox (defBody st) g)
    (S : FnScope N ps (defScope st) := by exact ⟨rfl, rfl, rfl, by decide +kernel, rfl, by decide +kernel, by decide +kernel⟩) (hn : ps.length = n := by rfl) : Dn P w K mg base (k + 1) x ps n (runF N g) := by
  obtain ⟨f, fd, U, hm, hB⟩ := U.ex
  exact qdn_of U hm hB S hn (hbody S.nd f) fun _ _ _ h => h
theorem qdnMA (N : List Str) (U : FnAt K mg x st ps) {g : Gam → Option Fl} (hbody : N.Nodup → ∀ (fa : Addr) (cdv : Value) (A : Around) (outer : List Env) (s : Shared) (H : Hp) (E : XK), Room k (A.deeper (envOfC x (defScope st) s.heap.objs.size fa cdv)) → QSFs (cxOf CX0 P w K mg base N x (defScope st) fa cdv A outer s H E).nox (defBody st) g)
    (S : FnScope N ps (defScope st) := by exact ⟨rfl, rfl, rfl, by decide +kernel, rfl, by decide +kernel, by decide +kernel⟩) (hn : ps.length = n := by rfl) : DnM P w K mg base (k + 1) x ps n (runM N g) := by
  obtain ⟨f, fd, U, hm, hB⟩ := U.ex
  exact qdnM_of U hm hB S hn (hbody S.nd f) fun _ _ _ _ _ h => h
end
structure TC (K : Fg) (mg : Str → Option Value) (x : Str) (ds : List Dat) (a : Addr) : Prop where
  mg : mg x = some (.ref a)
  tup : ModT K a ds
theorem tc_mk {K : Fg} {mg : Str → Option Value} {h : Heap} {x : Str} {a : Addr} {o : Option Addr} {n : Nat} {sl : Array (Option Value)} {i j : Int} {t u : Tok} (X : K.In h) (G : h.Ns mainGlobals mg) (e : PySem.W.nsIn K mainGlobals x = some (some (.ref a))) (l : K.lookup a = some ⟨.type "tuple", o, .seq #[.int i t, .int j u] n, sl⟩) : ∃ a, TC K mg x [.int i, .int j] a :=
  ⟨a, PySem.W.mg_of X G e, ⟨[.int i, .int j], _, _, _, l, rfl, rfl, Nat.le_of_lt (small1000 (by show 2 ≤ 1000; decide)), .cons ⟨_, rfl⟩ (.cons ⟨_, rfl⟩ .nil), fun H Av => RepDs.ints [i, j]⟩⟩
end L3
namespace L3
open PySem PySem.Spec PyProof.Rows L2
open PySem.W (Dat kqdOk)
noncomputable section
variable {X : Cx} {a b e tg iter : Expr} {es : List Expr} {pos : Pos} {ha : HF} {ht : Gam → Option (Bool × Gam)} {gt : Dat → Option Asg} {gb : Gam → Option Fl} {hI : Gam → Option (List Dat × Gam)}
def sForH (gt : Dat → Option Asg) (gb : Gam → Option Fl) (hI : Gam → Option (List Dat × Gam)) : Gam → Option Fl := fun Γ => (hI Γ).bind fun p => forL gt gb p.1 p.2
theorem qpsf_forH {body : List Stmt} (hp : PassesOwn (model X.prog X.w) X.A X.env X.xe) (hc : X.calm = true) (hi : QIH X tg iter hI) (hg : QG X tg (tGF X.K gt)) (hb : QSFs X body gb)
    (hs : ∀ x, foldedSetIterable iter X.env x = pure x := by intro _; rfl) : QSF X (.For tg iter body [] pos) (sForH gt gb hI) := ⟨ps_mono (ps_for hp hc hi.o hg.o hb.o hs) fun D σ H ⟨H₀, Av, pn, hid, Γ, fl, ⟨ad, G⟩, hf, q⟩ => by
  obtain ⟨⟨ds, Γ1⟩, e1, hf⟩ := bind_some hf
  exact ⟨H₀, Av, pn, hid, Γ, ad, ds, Γ1, G, e1, fun J xs dxs H1 ad1 G1 rx ov => for_turnsS ov G1 rx hf q⟩⟩
end
end L3
namespace L3
open PySem PySem.Spec PyProof.Rows L2
open PySem.W (Dat kqdOk)
noncomputable section
variable {K : Fg} {H₀ H H' : Hp} {Av : AvP} {pn : Option Addr} {hid : Hid} {σ : L2.St} {Γ : Gam} {ad : Nat → Addr}
theorem GA.frz (G : GA K H₀ Av pn hid H σ Γ ad) {i : Nat} {ds : List Dat} (hi : Γ[i]? = some (some (.own ds))) : GA K H₀ Av pn hid H σ (Γ.set i (some (.imm (.list ds)))) ad := by
  obtain ⟨xs, a1, a2, a3, a4⟩ := G.own i ds hi
  have na : ¬ AvG Av (Γ.set i (some (.imm (.list ds)))) ad (ad i) := by
    rintro (z | ⟨j, s, e, m, r⟩)
    · obtain ⟨o, ho⟩ := G.avt _ z
      rw [a4] at ho; cases ho
    · rcases set_get e with ⟨_, q⟩ | ⟨ne, q⟩
      · cases q; cases m
      · exact ne (G.inj j i s (.own ds) q hi m rfl r)
  refine ⟨G.same, G.avt, by rw [List.length_set]; exact G.len, fun j d' h => ?_, fun j ds' h => ?_, fun j k s t h1 h2 m1 m2 e => ?_, fun p hp => (G.hid p hp).weak AvG.set_imm, fun a ds' e h => ?_, fun j O ds' h => ?_⟩
  · rcases set_get h with ⟨e, q⟩ | ⟨e, q⟩
    · subst e
      cases q
      exact ⟨_, a1, .lst (.inl ⟨.inl a2, na⟩) (a3.weak AvG.set_imm)⟩
    · obtain ⟨u, a, b⟩ := G.imm j d' q
      exact ⟨u, a, b.weak AvG.set_imm⟩
  · rcases set_get h with ⟨e, q⟩ | ⟨e, q⟩
    · cases q
    · obtain ⟨xs, a, b, c, e'⟩ := G.own j ds' q
      exact ⟨xs, a, b, c.weak AvG.set_imm, e'⟩
  · rcases set_get h1 with ⟨_, q⟩ | ⟨_, q1⟩
    · cases q; cases m1
    rcases set_get h2 with ⟨_, q⟩ | ⟨_, q2⟩
    · cases q; cases m2
    exact G.inj j k s t q1 q2 m1 m2 e
  · rcases set_get h with ⟨_, q⟩ | ⟨_, q⟩
    · cases q
    · exact G.pin a ds' e q
  · rcases set_get h with ⟨_, q⟩ | ⟨_, q⟩
    · cases q
    · obtain ⟨xs, a, b, c, e'⟩ := G.obj j O ds' q
      exact ⟨xs, a, b, c.weak AvG.set_imm, e'⟩
variable {X : Cx} {e : Expr} {pos : Pos} {h : HF}
def frzG (i : Nat) (Γ : Gam) : Gam := match Γ[i]? with
  | some (some (.own ds)) => Γ.set i (some (.imm (.list ds)))
  | _ => Γ
theorem GA.frzG (G : GA K H₀ Av pn hid H σ Γ ad) (i : Nat) : GA K H₀ Av pn hid H σ (L3.frzG i Γ) ad := by
  unfold L3.frzG
  split
  · rename_i ds hi; exact G.frz hi
  · exact G
end
end L3
namespace L3
open PySem PySem.Spec PyProof.Rows L2
open PySem.W (Dat kqdOk)
structure W3 (X : Cx) (pins : List (Addr × Obj)) (σ : L2.St) (H : Hp) (s : Shared) (T J S : Addr) (oT oJ oS : Obj) : Prop where
  inv : Inv X pins σ H s
  t : s.heap.get? T = some oT
  j : s.heap.get? J = some oJ
  s : s.heap.get? S = some oS
  ft : FpOk X pins H T
  fj : FpOk X pins H J
  fs : FpOk X pins H S
  nt : ∀ v, oT.data ≠ .cell v
  nj : ∀ v, oJ.data ≠ .cell v
  ns : ∀ v, oS.data ≠ .cell v
section
variable {X : Cx} {pins : List (Addr × Obj)} {σ : L2.St} {H : Hp} {s : Shared} {T J S : Addr} {oT oJ oS : Obj}
theorem W3.pinned (w : W3 X pins σ H s T J S oT oJ oS) : Inv X (pins ++ [(T, oT), (J, oJ), (S, oS)]) σ H s := by
  have hpin : ∀ p ∈ X.pn ++ (pins ++ [(T, oT), (J, oJ), (S, oS)]), s.heap.get? p.1 = some p.2 ∧ H p.1 = none ∧ p.1 ≠ X.env.locals ∧ p.1 ∉ X.fs ∧ ∀ v, p.2.data ≠ .cell v := by
    intro p hp
    rw [← List.append_assoc] at hp
    rcases List.mem_append.mp hp with hp | hp
    · exact w.inv.pin p hp
    · rcases List.mem_cons.mp hp with rfl | hp
      · exact ⟨w.t, w.ft.1, w.ft.2.1, w.ft.2.2.1, w.nt⟩
      · rcases List.mem_cons.mp hp with rfl | hp
        · exact ⟨w.j, w.fj.1, w.fj.2.1, w.fj.2.2.1, w.nj⟩
        · rw [List.mem_singleton.mp hp]
          exact ⟨w.s, w.fs.1, w.fs.2.1, w.fs.2.2.1, w.ns⟩
  exact { w.inv with pin := hpin }
theorem W3.back {H' : Hp} {s' : Shared} (w : W3 X pins σ H s T J S oT oJ oS) (I : Inv X (pins ++ [(T, oT), (J, oJ), (S, oS)]) σ H' s') : W3 X pins σ H' s' T J S oT oJ oS := by
  have hm : ∀ p, p ∈ [(T, oT), (J, oJ), (S, oS)] → p ∈ X.pn ++ (pins ++ [(T, oT), (J, oJ), (S, oS)]) := fun p hp => List.mem_append_right _ (List.mem_append_right _ hp)
  have pT := I.pin (T, oT) (hm _ (by simp))
  have pJ := I.pin (J, oJ) (hm _ (by simp))
  have pS := I.pin (S, oS) (hm _ (by simp))
  refine ⟨{ I with pin := fun p hp => I.pin p (by rw [← List.append_assoc]; exact List.mem_append_left _ hp) }, pT.1, pJ.1, pS.1, ⟨pT.2.1, w.ft.2⟩, ⟨pJ.2.1, w.fj.2⟩, ⟨pS.2.1, w.fs.2⟩, w.nt, w.nj, w.ns⟩
variable {k : Nat} {f : Addr} {fd : FuncData} {ps : List Str} {F : List Dat → Option Dat}
theorem key_run (Fk : FnOk X.prog X.w X.K X.mg X.base CX0 k f fd ps (spF X.K 1 F)) (hr : Room k X.A.in1) (hb : Binds X.K fd ps []) (w : W3 X pins σ H s T J S oT oJ oS) {x : V} {v : Value} (r : RelV x v) {Av : AvP} {d : Dat} (hA : AvT H Av) (p : RepD X.K H Av x d) {i : Int} (e : F [d] = some (.int i)) :
    wpAny (model X.prog X.w) X.A.in1 (call (.ref f) [v]) (fun u s' => ∃ t H', u = .int i t ∧ Same H H' ∧ W3 X pins σ H' s' T J S oT oJ oS) (fun _ _ => False) s := by
  have I := w.pinned
  have hsp : spF X.K 1 F [x] H (fun v H' => v = .int i ∧ Same H H') E0 := ⟨Av, [d], .int i, hA, .cons p .nil, rfl, e, fun v H' sm q => ⟨q.i_inv, sm⟩⟩
  have hl : ([v] : List Value).length = ps.length := by have := Fk.len _ _ _ _ hsp; simpa using this
  have hbb := hb s [v] I.kIn (by rw [List.append_nil]; exact hl)
  rw [List.append_nil] at hbb
  refine wpAny_call (codeAny_mono (Fk.run X.A.in1 X.stack s H ⟨[v], []⟩ [v] [x] _ _ hr I.env0.in1 hbb (.cons r .nil) hsp) fun rr s' hq => ?_)
  cases rr with
  | error e => exact False.elim hq
  | ok fl =>
    cases fl with
    | ret u =>
      obtain ⟨y, H', I2, ry, ey, sm⟩ := I.after hq
      subst ey
      obtain ⟨t, rfl⟩ := ry
      exact ⟨t, H', rfl, sm, w.back I2⟩
    | next => exact False.elim hq
    | brk => exact False.elim hq
    | cont => exact False.elim hq
theorem max_args2 (a b v : Value) : argsOk "max" ⟨[a, b], [(Str.ofString "key", v)]⟩ := by unfold argsOk; kernel_rfl
theorem W3.turnJ {h' : Heap} {oJ' : Obj} (w : W3 X pins σ H s T J S oT oJ oS) (hb : Heap.ExtBut J s.heap h') (hj : h'.get? J = some oJ') (nj : ∀ v, oJ'.data ≠ .cell v) (hTJ : T ≠ J) (hSJ : S ≠ J) : W3 X pins σ H { s with heap := h' } T J S oT oJ' oS :=
  ⟨w.inv.turned (t' := s.toks) (fun b o hn e => hb b o hn e) w.fj.1 w.fj.2.1 w.fj.2.2.2.1 w.fj.2.2.2.2.1 w.fj.2.2.2.2.2, hb _ _ hTJ w.t, hj, hb _ _ hSJ w.s, w.ft, w.fj, w.fs, w.nt, nj, w.ns⟩
theorem W3.turnS {h' : Heap} {oS' : Obj} (w : W3 X pins σ H s T J S oT oJ oS) (hb : Heap.SameBut S s.heap h') (hs : h'.get? S = some oS') (ns : ∀ v, oS'.data ≠ .cell v) (hTS : T ≠ S) (hJS : J ≠ S) : W3 X pins σ H { s with heap := h' } T J S oT oJ oS' :=
  ⟨w.inv.turned (t' := s.toks) (fun b o hn e => (hb.2 b hn).trans e) w.fs.1 w.fs.2.1 w.fs.2.2.2.1 w.fs.2.2.2.2.1 w.fs.2.2.2.2.2, (hb.2 _ hTS).trans w.t, (hb.2 _ hJS).trans w.j, hs, w.ft, w.fj, w.fs, w.nt, w.nj, ns⟩
abbrev RM (X : Cx) (pins : List (Addr × Obj)) (σ : L2.St) (Q : VK) (E : Value → Shared → Prop) : Result → Shared → Prop := fun r s' => match r with | .ok (.ret v) => EP X pins σ Q v s' | .ok _ => False | .error e => E e s'
theorem seqObj_nc {c : String} {xs : Array Value} {n : Nat} : ∀ v, (seqObj c xs n).data ≠ .cell v := fun v z => by cases z
theorem max_end {v1 v2 : Value} {x : V} {vb wb : Value} {c : Nat} {Q : VK} {E : Value → Shared → Prop} (hh : X.A.in1.handled = none) (w : W3 X pins σ H s T J S oT oJ (seqObj "list" #[vb, wb] c)) (hT : s.heap.IsTuple T #[v1, v2]) (hJ : s.heap.IsTupleIter J T 2) (hSJ : S ≠ J) (r : RelV x vb) (q : Q x H) :
    codeAny (model X.prog X.w) X.A (.builtin "max.loop" ⟨[.ref J, .ref f, .ref S], []⟩) (RM X pins σ Q E) s := by
  refine codeAny_builtin PySem.F.entry_max_loop ?_
  rw [Around.under_plainId PySem.F.plain_max_loop _]
  show wpAny _ X.A.in1 (seqItems? (.ref S) >>= _) _ _ _
  refine wpAny_bind (wpAny_seqItems w.s rfl ?_)
  show wpAny _ X.A.in1 (tryCatch (pyNext (.ref J)) _ >>= _) _ _ _
  refine wpAny_bind (wpAny_tryCatch (wpAny_pyNext_tuple_end hh hJ hT rfl fun h' hb => ?_))
  have I1 : Inv X pins σ H { s with heap := h' } := w.inv.turned (t' := s.toks) (fun b o hn e => hb b o hn e) w.fj.1 w.fj.2.1 w.fj.2.2.2.1 w.fj.2.2.2.2.1 w.fj.2.2.2.2.2
  have hS := hb _ _ hSJ w.s
  show wpAny _ X.A.in1 (updateSeq S (fun _ => #[]) >>= _) _ _ _
  refine wpAny_bind ?_
  refine wpAny_updateSeq hS rfl (wpAny_bind (wpAny_letGo (wpAny_pure ?_)))
  have s1 := Heap.SameBut.update h' S (Obj.mapSeq fun _ => (#[] : Array Value))
  exact ⟨x, H, I1.turned (t' := s.toks) (fun b o hn e => (s1.2 b hn).trans e) w.fs.1 w.fs.2.1 w.fs.2.2.2.1 w.fs.2.2.2.2.1 w.fs.2.2.2.2.2, r, q⟩
theorem iter_obj {h : Heap} {J T : Addr} {n : Nat} (hJ : h.IsTupleIter J T n) : ∃ o, h.get? J = some o ∧ (∀ v, o.data ≠ .cell v) ∧ ∀ h' : Heap, h'.get? J = some o → h'.IsTupleIter J T n := by
  obtain ⟨o, ho, hc, hd⟩ := hJ
  exact ⟨o, ho, (fun v z => by rw [hd] at z; cases z), fun h' e => ⟨o, e, hc, hd⟩⟩
theorem max_two {v1 v2 : Value} {x1 x2 : V} {i1 i2 : Int} {t1 : Tok} {c : Nat} {Q : VK} {E : Value → Shared → Prop} {Av : AvP} {d2 : Dat} (Fk : FnOk X.prog X.w X.K X.mg X.base CX0 k f fd ps (spF X.K 1 F)) (hr : Room k X.A.in1) (hb : Binds X.K fd ps []) (w : W3 X pins σ H s T J S oT oJ (seqObj "list" #[v1, .int i1 t1] c)) (hT : ∀ h : Heap, h.get? T = some oT → h.IsTuple T #[v1, v2]) (hJ : s.heap.IsTupleIter J T 1) (hSJ : S ≠ J) (hTJ : T ≠ J) (hTS : T ≠ S) (r1 : RelV x1 v1) (r2 : RelV x2 v2) (hA : AvT H Av) (p2 : RepD X.K H Av x2 d2) (e2 : F [d2] = some (.int i2))
    (q : ∀ H', Same H H' → Q (if i2 > i1 then x2 else x1) H') : codeAny (model X.prog X.w) X.A (.builtin "max.loop" ⟨[.ref J, .ref f, .ref S], []⟩) (RM X pins σ Q E) s := by
  have hname : (toString "max" ++ toString ".loop" : String) = "max.loop" := by decide
  refine codeAny_builtin PySem.F.entry_max_loop ?_
  rw [Around.under_plainId PySem.F.plain_max_loop _]
  show wpAny _ X.A.in1 (seqItems? (.ref S) >>= _) _ _ _
  refine wpAny_bind (wpAny_seqItems w.s rfl ?_)
  show wpAny _ X.A.in1 (tryCatch (pyNext (.ref J)) _ >>= _) _ _ _
  refine wpAny_bind (wpAny_tryCatch (wpAny_pyNext_tuple_item (x := v2) hJ (hT _ w.t) rfl fun h' hit sb => ?_))
  obtain ⟨oJ', gJ, nJ, bJ⟩ := iter_obj hit
  have w1 := w.turnJ (h' := h') (oJ' := oJ') (fun b o hn e => (sb.2 b hn).trans e) gJ nJ hTJ hSJ
  show wpAny _ X.A.in1 (tryCatch (holding [v2] (call (.ref f) [v2])) _ >>= _) _ _ _
  refine wpAny_bind (wpAny_tryCatch (wpAny_holding (wpAny_mono (key_run Fk hr hb w1 r2 hA p2 e2) (fun u s2 hu => ?_) fun _ _ hF => hF.elim)))
  obtain ⟨t2, H2, rfl, sm, w2⟩ := hu
  show wpAny _ X.A.in1 (tryCatch (holding [v2, .int i2 t2] (richCompare .Gt (.int i2 t2) (.int i1 t1) >>= _)) _ >>= _) _ _ _
  refine wpAny_bind (wpAny_tryCatch (wpAny_holding (wpAny_bind (CmpOf.ints_gt (prog := X.prog) (w := X.w) (A := X.A.in1) (P := fun i v => ∃ t, v = .int ((fun n : Nat => if n = 0 then i1 else i2) i) t) (fun n : Nat => if n = 0 then i1 else i2) (fun i v h => h) 1 0 _ _ _ _ _ ⟨t2, rfl⟩ ⟨t1, rfl⟩ ?_))))
  refine wpAny_bind (wpAny_holding (wpAny_truthy_bool ?_))
  refine wpAny_bind (wpAny_letGo (wpAny_pure ?_))
  have q2 := q H2 sm
  by_cases hc : i2 > i1
  · rw [if_pos hc] at q2
    have s1 := Heap.SameBut.update s2.heap S (Obj.mapSeq fun _ => #[v2, .int i2 t2])
    have g1 := get?_update_seq w2.s fun _ => #[v2, .int i2 t2]
    have w3 := w2.turnS s1 g1 seqObj_nc hTS hSJ.symm
    simp only [show (1 : Nat) ≠ 0 from by decide, if_false, if_true, hc, decide_true]
    refine wpAny_bind ?_
    refine wpAny_updateSeq w2.s rfl (wpAny_bind (wpAny_letGo ?_))
    rw [hname]
    refine wpAny_pure ⟨plainId_quiet PySem.F.plain_max_loop _, ?_⟩
    exact max_end hr.hd w3 (hT _ w3.t) (bJ _ w3.j) hSJ r2 q2
  · rw [if_neg hc] at q2
    simp only [show (1 : Nat) ≠ 0 from by decide, if_false, if_true, hc, decide_false, Bool.false_eq_true]
    refine wpAny_bind (wpAny_letGo ?_)
    rw [hname]
    refine wpAny_pure ⟨plainId_quiet PySem.F.plain_max_loop _, ?_⟩
    exact max_end hr.hd w2 (hT _ w2.t) (bJ _ w2.j) hSJ r1 q2
theorem max2_run (Fk : FnOk X.prog X.w X.K X.mg X.base CX0 k f fd ps (spF X.K 1 F)) (hr : Room k X.A.in1) (hb : Binds X.K fd ps []) (I : Inv X pins σ H s) {x1 x2 : V} {v1 v2 : Value} (r1 : RelV x1 v1) (r2 : RelV x2 v2) {Av : AvP} {d1 d2 : Dat} (hA : AvT H Av) (p1 : RepD X.K H Av x1 d1) (p2 : RepD X.K H Av x2 d2) {i1 i2 : Int} (e1 : F [d1] = some (.int i1)) (e2 : F [d2] = some (.int i2))
    {Q : VK} {E : Value → Shared → Prop} (q : ∀ H', Same H H' → Q (if i2 > i1 then x2 else x1) H') : wpAny (model X.prog X.w) X.A (call (.builtin "max") [v1, v2] [(Str.ofString "key", .ref f)]) (EP X pins σ Q) E s := by
  have hname : (toString "max" ++ toString ".loop" : String) = "max.loop" := by decide
  have hh : X.A.in1.handled = none := hr.hd
  refine kmk_tree PySem.F.kind_max PySem.F.plain_max PySem.F.entry_max (max_args2 _ _ _) ?_
  show wpAny _ X.A.in1 (Builtin.Builtins.bindParams "max" ["key", "default"] 0 ⟨[], [(Str.ofString "key", .ref f)]⟩ >>= _) _ _ s
  refine wpAny_bind (wpAny_of_eq (show Builtin.Builtins.bindParams "max" ["key", "default"] 0 ⟨[], [(Str.ofString "key", .ref f)]⟩ = pure [some (.ref f), none] from rfl) ?_)
  show wpAny _ X.A.in1 (newTuple [v1, v2] >>= _) _ _ s
  refine wpAny_bind (wpAny_newTuple ?_)
  generalize hT : s.heap.objs.size = T
  generalize hoT : ({ cls := .type "tuple", data := .seq [v1, v2].toArray } : Obj) = oT
  have gT : (s.heap.push oT).get? T = some oT := by rw [← hT]; exact Heap.get?_push_size _ (by rw [← hoT]; rfl)
  have iT : (s.heap.push oT).IsTuple T #[v1, v2] := ⟨_, gT, by rw [← hoT], 0, by rw [← hoT]⟩
  refine wpAny_bind (wpAny_pyIter_tuple iT ?_)
  generalize hJ : (s.heap.push oT).objs.size = J
  generalize hoJ : ({ cls := .type "tuple_iterator", data := .fields #[.ref T, .int 0 0] } : Obj) = oJ
  refine wpAny_bind (wpAny_newList ?_ (Nat.zero_le _))
  generalize hS : ((s.heap.push oT).push oJ).objs.size = S
  rw [hname]
  refine wpAny_pure ⟨plainId_quiet PySem.F.plain_max_loop _, ?_⟩
  have z1 : (s.heap.push oT).objs.size = s.heap.objs.size + 1 := Heap.size_push ..
  have z2 : ((s.heap.push oT).push oJ).objs.size = s.heap.objs.size + 2 := by rw [Heap.size_push, z1]
  have hTJ : T ≠ J := by omega
  have hSJ : S ≠ J := by omega
  have hTS : T ≠ S := by omega
  have I1 : Inv X pins σ H { s with heap := ((s.heap.push oT).push oJ).push (seqObj "list" #[] 0) } := I.kept (t' := s.toks) fun b u e => Heap.get?_push_of_some _ (Heap.get?_push_of_some _ (Heap.get?_push_of_some _ e))
  have w : W3 X pins σ H { s with heap := ((s.heap.push oT).push oJ).push (seqObj "list" #[] 0) } T J S oT oJ (seqObj "list" #[] 0) := by
    refine ⟨I1, Heap.get?_push_of_some _ (Heap.get?_push_of_some _ gT), Heap.get?_push_of_some _ ?_, ?_, I.fpOk (by omega) (I.hok.fresh (by omega)), I.fpOk (by omega) (I.hok.fresh (by omega)), I.fpOk (by omega) (I.hok.fresh (by omega)), ?_, ?_, seqObj_nc⟩
    · rw [← hJ]; exact Heap.get?_push_size _ (by rw [← hoJ]; rfl)
    · rw [← hS]; exact Heap.get?_push_size _ rfl
    · rw [← hoT]; exact fun v z => by cases z
    · rw [← hoJ]; exact fun v z => by cases z
  have hTup : ∀ h : Heap, h.get? T = some oT → h.IsTuple T #[v1, v2] := fun h e => ⟨_, e, by rw [← hoT], 0, by rw [← hoT]⟩
  have hJ0 : (((s.heap.push oT).push oJ).push (seqObj "list" #[] 0)).IsTupleIter J T 0 := ⟨_, w.j, by rw [← hoJ], by rw [← hoJ]; rfl⟩
  show codeAny (model X.prog X.w) X.A (.builtin "max.loop" ⟨[.ref J, .ref f, .ref S], []⟩) (RM X pins σ Q E) { s with heap := ((s.heap.push oT).push oJ).push (seqObj "list" #[] 0) }
  refine codeAny_builtin PySem.F.entry_max_loop ?_
  rw [Around.under_plainId PySem.F.plain_max_loop _]
  show wpAny _ X.A.in1 (seqItems? (.ref S) >>= _) _ _ _
  refine wpAny_bind (wpAny_seqItems w.s rfl ?_)
  show wpAny _ X.A.in1 (tryCatch (pyNext (.ref J)) _ >>= _) _ _ _
  refine wpAny_bind (wpAny_tryCatch (wpAny_pyNext_tuple_item (x := v1) hJ0 (hTup _ w.t) rfl fun h' hit sb => ?_))
  obtain ⟨oJ', gJ, nJ, bJ⟩ := iter_obj hit
  have w1 := w.turnJ (h' := h') (oJ' := oJ') (fun b o hn e => (sb.2 b hn).trans e) gJ nJ hTJ hSJ
  show wpAny _ X.A.in1 (tryCatch (holding [v1] (call (.ref f) [v1])) _ >>= _) _ _ _
  refine wpAny_bind (wpAny_tryCatch (wpAny_holding (wpAny_mono (key_run Fk hr hb w1 r1 hA p1 e1) (fun u s2 hu => ?_) fun _ _ hF => hF.elim)))
  obtain ⟨t2, H2, rfl, sm, w2⟩ := hu
  have s1 := Heap.SameBut.update s2.heap S (Obj.mapSeq fun _ => #[v1, .int i1 t2])
  have g1 := get?_update_seq w2.s fun _ => #[v1, .int i1 t2]
  have w3 := w2.turnS s1 g1 seqObj_nc hTS hSJ.symm
  show wpAny _ X.A.in1 (updateSeq S (fun _ => #[v1, .int i1 t2]) >>= _) _ _ _
  refine wpAny_bind ?_
  refine wpAny_updateSeq w2.s rfl ?_
  rw [hname]
  refine wpAny_pure ⟨plainId_quiet PySem.F.plain_max_loop _, ?_⟩
  exact max_two Fk hr hb w3 hTup (bJ _ w3.j) hSJ hTJ hTS r1 r2 (hA.same sm) (p2.same sm) e2 fun H' s' => q H' (sm.trans s')
theorem callWith_bk {M : Model} {A : Around} {E : Value → Shared → Prop} {s : Shared} {pos : Pos} {id : String} {first : List Value} {args : List (Bool × Sem Value)} {kws : List (Option Str × Sem Value)} {Q : Value → Shared → Prop} (hplain : (args.any (·.1) || kws.any (·.1.isNone)) = false)
    (h : wpAny M A (evalArgs (.builtin id) true args kws) (fun a s₁ => wpAny M A (call (.builtin id) (first ++ a.pos) a.kw) Q E s₁) E s) : wpAny M A (callWith pos (.builtin id) first args kws) Q E s := by
  unfold callWith
  refine wpAny_bind (wpAny_holding (wpAny_mono h (fun a s₁ h₁ => wpAny_bind (wpAny_standAt ?_)) fun _ _ x => x))
  simp only [hplain]
  refine wpAny_bind (wpAny_pure ?_)
  exact wpAny_bind (wpAny_mono h₁ (fun r s₂ hr => wpAny_bind (wpAny_holding (wpAny_point (wpAny_pure hr)))) fun _ _ x => x)
end
section
variable {X : Cx} {a b : Expr} {pos : Pos} {fs : Rho → Option (List Dat)} {k : Nat} {ps : List Str} {F : List Dat → Option Dat} {x : Str}
def keyI (F : List Dat → Option Dat) (d : Dat) : Option Int := (F [d]).bind asI
def fMaxK (F : List Dat → Option Dat) (fs : Rho → Option (List Dat)) : Rho → Option Dat := fun ρ => (fs ρ).bind fun ds => match ds with
  | [d1, d2] => (keyI F d1).bind fun i1 => (keyI F d2).bind fun i2 => some (if i2 > i1 then d2 else d1)
  | _ => none
theorem keyI_some {d : Dat} {i : Int} (h : keyI F d = some i) : F [d] = some (.int i) := by
  obtain ⟨y, e1, e2⟩ := bind_some h
  rw [e1, asI_some e2]
theorem pf_maxK {p p2 kp : Pos} (D : Dn X.prog X.w X.K X.mg X.base k x ps 1 F) (hr : Room (k + 1) X.A) (hm : X.mg "max" = none) (ha : PFA X [a, b] fs) (hg : Gl X "max" := by rfl) (hgx : Gl X x := by rfl) (hdb : (x == ("__debug__" : Str)) = false := by decide)
    (hall : (backToKw pos (keywordEach [⟨some "key", .Name x p2, kp⟩] X.env)).all (·.1.isSome) = true := by rfl) (hks : (backToKw pos (keywordEach [⟨some "key", .Name x p2, kp⟩] X.env)).filterMap (·.1) = [Str.ofString "key"] := by rfl)
    (hpl : ((backTo pos (starEach [a, b] X.env)).any (·.1) || (backToKw pos (keywordEach [⟨some "key", .Name x p2, kp⟩] X.env)).any (·.1.isNone)) = false := by rfl) (he : starEach [a, b] X.env = (false, eval a X.env) :: starEach [b] X.env := by rfl) :
    PF X (.Call (.Name "max" p) [a, b] [⟨some "key", .Name x p2, kp⟩] pos) (fMaxK F fs) := by
  obtain ⟨f, fd, h1, h2, h3, h4⟩ := D.ex
  intro pins s σ H Q I h
  obtain ⟨Av, ρ, d, hA, hE, hf, q⟩ := h
  obtain ⟨ds, e1, hf⟩ := bind_some hf
  refine wpAny_Call_Name_kw (ld_blt I hg hm (u := .builtin "max") (by decide +kernel) ?_)
  refine callWith_bk hpl (evalArgs_kw2 hall (thn (ha pos pins s σ H (fun vs H1 => Same H H1 ∧ RepDs X.K H1 Av vs ds) I ⟨Av, ρ, ds, hA, hE, e1, fun vs H' s' r => ⟨s', r⟩⟩) fun us s1 ⟨vs, H1, I1, r, sm, rd⟩ => ?_) he)
  have hk : PK X [⟨some "key", .Name x p2, kp⟩] (tCons (fun σ H Q => Q (.ref f) H) tNil) := pk_cons (fun pins s σ H Q I h => ld_glob I hgx h2 ⟨.ref f, H, I, rfl, h⟩ hdb) pk_nil
  refine thn (hk pos pins s1 σ H1 (fun zs H2 => zs = [.ref f] ∧ H2 = H1) I1 ⟨rfl, rfl⟩) fun ws s2 ⟨zs, H2, I2, rz, ez, eH⟩ => ?_
  subst ez
  subst eH
  cases rz with
  | cons rz0 rzz =>
    cases rzz
    obtain rfl := rz0
    rw [hks]
    split at hf
    · rename_i d1 d2
      obtain ⟨i1, k1, hf⟩ := bind_some hf
      obtain ⟨i2, k2, hf⟩ := bind_some hf
      cases hf
      obtain ⟨x1, x2, rfl, p1, p2'⟩ := rd.two_inv
      cases r with
      | cons r1 rr =>
        cases rr with
        | cons r2 rr =>
          cases rr
          refine max2_run h1 hr.in1 h4 I2 r1 r2 (hA.same sm) p1 p2' (keyI_some k1) (keyI_some k2) fun H' s' => ?_
          by_cases hc : i2 > i1
          · rw [if_pos hc] at q ⊢
            exact q _ _ (sm.trans s') (p2'.same s')
          · rw [if_neg hc] at q ⊢
            exact q _ _ (sm.trans s') (p1.same s')
    · cases hf
theorem qpf_maxK {p p2 kp : Pos} (D : Dn X.prog X.w X.K X.mg X.base k x ps 1 F) (hr : Room (k + 1) X.A) (hm : X.mg "max" = none) (ha : QFA X [a, b] fs) (hg : Gl X "max" := by rfl) (hgx : Gl X x := by rfl) (hdb : (x == ("__debug__" : Str)) = false := by decide)
    (hall : (backToKw pos (keywordEach [⟨some "key", .Name x p2, kp⟩] X.env)).all (·.1.isSome) = true := by rfl) (hks : (backToKw pos (keywordEach [⟨some "key", .Name x p2, kp⟩] X.env)).filterMap (·.1) = [Str.ofString "key"] := by rfl)
    (hpl : ((backTo pos (starEach [a, b] X.env)).any (·.1) || (backToKw pos (keywordEach [⟨some "key", .Name x p2, kp⟩] X.env)).any (·.1.isNone)) = false := by rfl) (he : starEach [a, b] X.env = (false, eval a X.env) :: starEach [b] X.env := by rfl) :
    QF X (.Call (.Name "max" p) [a, b] [⟨some "key", .Name x p2, kp⟩] pos) (fMaxK F fs) := ⟨pf_maxK D hr hm ha.o hg hgx hdb hall hks hpl he⟩
end
end L3
namespace L3
open PySem PySem.Spec PyProof.Rows L2
open PySem.W (Dat kqdOk)
section
variable {X : Cx} {a b e : Expr} {pos : Pos} {fa fb : Rho → Option Dat} {fs : Rho → Option (List Dat)}
def fCatV (fa fb : Rho → Option Dat) : Rho → Option (List Dat) := fun ρ => (fa ρ).bind fun x => (fb ρ).bind fun y => match x, y with
  | .list xs, .list ys => if xs.length + ys.length ≤ sizeLine then some (xs ++ ys) else none
  | _, _ => none
theorem pfl_catV (ha : PF X a fa) (hb : PF X b fb) : PE X (.BinOp a .Add b pos) (tFL X.K (fCatV fa fb)) := pe_mono (pe_op op_catS ha hb) fun σ H Q ⟨Av, ρ, out, hA, hE, hf, q⟩ => by
  obtain ⟨x, e1, hf⟩ := bind_some hf
  obtain ⟨y, e2, hf⟩ := bind_some hf
  split at hf
  · rename_i xs ys
    split at hf
    · rename_i hz
      cases hf
      refine ⟨Av, ρ, _, hA, hE, e1, fun v H1 s1 r1 => ⟨Av, ρ, _, hA.same s1, hE.same s1, e2, fun u H2 s2 r2 => ?_⟩⟩
      obtain ⟨p, vs, rfl, hq, rs⟩ := (r1.same s2).l_inv
      obtain ⟨p', us, rfl, hq', rs'⟩ := r2.l_inv
      exact ⟨p, p', vs, us, rfl, rfl, hq.sq, hq'.sq, by rw [rs.length, rs'.length]; exact hz, fun p3 hp3 => q _ p3 _ (s1.trans s2) hp3 (rs.append rs')⟩
    · cases hf
  · cases hf
theorem qpfl_catV (ha : QF X a fa) (hb : QF X b fb) : QE X (.BinOp a .Add b pos) (tFL X.K (fCatV fa fb)) := ⟨pfl_catV ha.o hb.o⟩
theorem RepDs.apart {K : Fg} {H₀ H H' : Hp} {Av : AvP} {pn : Option Addr} {hid : Hid} {σ : L2.St} {Γ : Gam} {ad : Nat → Addr} (G : GA K H₀ Av pn hid H σ Γ ad) (s : Same H H') (n : Nat) : ∀ {vs : List V} {ds : List Dat}, ds.all (noL n) = true → RepDs K H' Av vs ds → RepDs K H' (AvG Av Γ ad) vs ds
  | _, _, _, .nil => .nil
  | _, _, h, .cons r t => by
    rw [List.all_cons, Bool.and_eq_true] at h
    exact .cons (RepD.apart G s n h.1 r) (RepDs.apart G s n h.2 t)
def sOwnN (i : Nat) (f : Rho → Option (List Dat)) : Gam → Option Fl := fun Γ => (f (allV Γ)).bind fun ds => if ds.all (noL 9) = true then some (.nx (Γ.set i (some (.own ds)))) else none
theorem psf_ownN (i : Nat) {x : Str} {pos' : Pos} (hN : X.N.Nodup) (h : PE X e (tFL X.K fs)) (hi0 : i ≠ 0 := by decide) (hi : X.N[i]? = some x := by rfl) (hx : Loc X.env.scope x := by first | exact .inl rfl | exact .inr rfl) (hs : swapsWith e (some (.Name x pos')) pos.line X.env = pure false := by rfl) (hf : X.fn x = true ∨ X.env.scope.names.lookup x = some .local := by first | exact .inl rfl | exact .inr rfl) :
    PSF X (.Assign [.Name x pos'] e pos) (sOwnN i fs) := ps_mono (ps_set hN hi hx h hs hf) fun D σ H ⟨H₀, Av, pn, hid, Γ, fl, ⟨ad, G⟩, hf, q⟩ => by
  obtain ⟨ds, e1, hf⟩ := bind_some hf
  split at hf
  · rename_i hn
    cases hf
    exact ⟨Av, allV Γ, ds, G.avt.same G.same, G.envA, e1, fun H1 p xs s hp r => q _ _ ⟨_, (G.grow s).setOwn i hi0 hp (RepDs.apart G s 9 hn r)⟩⟩
  · cases hf
theorem qpsf_ownN (i : Nat) {x : Str} {pos' : Pos} (hN : X.N.Nodup) (h : QE X e (tFL X.K fs)) (hi0 : i ≠ 0 := by decide) (hi : X.N[i]? = some x := by rfl) (hx : Loc X.env.scope x := by first | exact .inl rfl | exact .inr rfl) (hs : swapsWith e (some (.Name x pos')) pos.line X.env = pure false := by rfl) (hf : X.fn x = true ∨ X.env.scope.names.lookup x = some .local := by first | exact .inl rfl | exact .inr rfl) :
    QSF X (.Assign [.Name x pos'] e pos) (sOwnN i fs) := ⟨psf_ownN i hN h.o hi0 hi hx hs hf⟩
end
section
variable {X : Cx} {e : Expr} {pos : Pos} {h : HF}
def frzs (is : List Nat) (Γ : Gam) : Gam := is.foldl (fun Γ i => frzG i Γ) Γ
theorem GA.frzs {K : Fg} {H₀ H : Hp} {Av : AvP} {pn : Option Addr} {hid : Hid} {σ : L2.St} {ad : Nat → Addr} : ∀ (is : List Nat) {Γ : Gam}, GA K H₀ Av pn hid H σ Γ ad → GA K H₀ Av pn hid H σ (L3.frzs is Γ) ad
  | [], _, G => G
  | i :: is, _, G => GA.frzs is (G.frzG i)
theorem qpsf_retFs (is : List Nat) (pe : QH X e h) : QSF X (.Return (some e) pos) (fun Γ => sRetM h (frzs is Γ)) := ⟨ps_mono (psf_retM pe.o) fun D σ H ⟨H₀, Av, pn, hid, Γ, fl, ⟨ad, G⟩, hf, q⟩ => ⟨H₀, Av, pn, hid, frzs is Γ, fl, ⟨ad, G.frzs is⟩, hf, q⟩⟩
end
end L3
namespace Fr
theorem gcd_fmod (a b : Int) (hb : 0 < b) : Int.gcd b (a.fmod b) = Int.gcd a b := by
  rw [Int.fmod_eq_emod_of_nonneg a (Int.le_of_lt hb)]
  apply Nat.dvd_antisymm
  · apply Int.dvd_gcd
    · have h1 := Int.gcd_dvd_left b (a % b)
      have h2 := Int.gcd_dvd_right b (a % b)
      have e : a = a % b + b * (a / b) := (Int.emod_add_mul_ediv a b).symm
      have h3 : (↑(b.gcd (a % b)) : Int) ∣ a % b + b * (a / b) := Int.dvd_add h2 (Int.dvd_mul_of_dvd_left h1)
      rw [← e] at h3
      exact h3
    · exact Int.gcd_dvd_left b (a % b)
  · apply Int.dvd_gcd
    · exact Int.gcd_dvd_right a b
    · have h1 := Int.gcd_dvd_left a b
      have h2 := Int.gcd_dvd_right a b
      have e : a % b = a - b * (a / b) := by have := Int.emod_add_mul_ediv a b; omega
      rw [e]
      exact Int.dvd_sub h1 (Int.dvd_mul_of_dvd_left h2)
def dv (n d : Int) : Int := if d < 0 then -(Int.gcd n d : Int) else (Int.gcd n d : Int)
def num (n d : Int) : Int := n.fdiv (dv n d)
def den (n d : Int) : Int := d.fdiv (dv n d)
theorem gcd_pos {n d : Int} (h : d ≠ 0) : 0 < Int.gcd n d := Nat.pos_of_ne_zero fun e => h (by
  have := Int.gcd_dvd_right n d
  rw [e] at this
  exact Int.zero_dvd.mp this)
theorem dv_ne {n d : Int} (h : d ≠ 0) : dv n d ≠ 0 := by
  have := gcd_pos (n := n) h
  unfold dv
  split <;> omega
theorem dv_dl (n d : Int) : dv n d ∣ n := by
  unfold dv
  split
  · exact Int.neg_dvd.mpr (Int.gcd_dvd_left n d)
  · exact Int.gcd_dvd_left n d
theorem dv_dr (n d : Int) : dv n d ∣ d := by
  unfold dv
  split
  · exact Int.neg_dvd.mpr (Int.gcd_dvd_right n d)
  · exact Int.gcd_dvd_right n d
theorem num_mul (n d : Int) : num n d * dv n d = n := by
  unfold num
  rw [Int.fdiv_eq_ediv_of_dvd (dv_dl n d)]
  exact Int.ediv_mul_cancel (dv_dl n d)
theorem den_mul (n d : Int) : den n d * dv n d = d := by
  unfold den
  rw [Int.fdiv_eq_ediv_of_dvd (dv_dr n d)]
  exact Int.ediv_mul_cancel (dv_dr n d)
theorem den_pos {n d : Int} (h : d ≠ 0) : 0 < den n d := by
  have e := den_mul n d
  have g := gcd_pos (n := n) h
  by_cases hd : d < 0
  · have e2 : dv n d = -(Int.gcd n d : Int) := by unfold dv; exact if_pos hd
    have hneg : dv n d < 0 := by omega
    rcases Int.lt_trichotomy (den n d) 0 with q | q | q
    · have := Int.mul_pos_of_neg_of_neg q hneg; omega
    · rw [q] at e; simp at e; omega
    · exact q
  · have e2 : dv n d = (Int.gcd n d : Int) := by unfold dv; exact if_neg hd
    have hpos : 0 < dv n d := by omega
    rcases Int.lt_trichotomy (den n d) 0 with q | q | q
    · have := Int.mul_neg_of_neg_of_pos q hpos; omega
    · rw [q] at e; simp at e; omega
    · exact q
theorem dv_abs (n d : Int) : (dv n d).natAbs = Int.gcd n d := by
  unfold dv
  split <;> simp
theorem cop {n d : Int} (h : d ≠ 0) : Int.gcd (num n d) (den n d) = 1 := by
  unfold num den
  rw [Int.fdiv_eq_ediv_of_dvd (dv_dl n d), Int.fdiv_eq_ediv_of_dvd (dv_dr n d), Int.gcd_ediv (dv_dl n d) (dv_dr n d), dv_abs]
  exact Nat.div_self (gcd_pos h)
theorem cross (n d : Int) : num n d * d = den n d * n := by
  have e1 := num_mul n d
  have e2 := den_mul n d
  calc num n d * d = num n d * (den n d * dv n d) := by rw [e2]
    _ = den n d * (num n d * dv n d) := by rw [Int.mul_left_comm]
    _ = den n d * n := by rw [e1]
theorem uniq {p q n d : Int} (hd : d ≠ 0) (hq : 0 < q) (hc : Int.gcd p q = 1) (h : p * d = q * n) : num n d = p ∧ den n d = q := by
  have hx := cross n d
  have hk := cop (n := n) hd
  have hdp := den_pos (n := n) hd

  have key : p * den n d = q * num n d := by
    have a1 : (p * den n d) * d = (q * num n d) * d := by
      calc (p * den n d) * d = (p * d) * den n d := by rw [Int.mul_right_comm]
        _ = (q * n) * den n d := by rw [h]
        _ = q * (den n d * n) := by rw [Int.mul_assoc, Int.mul_comm n]
        _ = q * (num n d * d) := by rw [hx]
        _ = (q * num n d) * d := by rw [Int.mul_assoc]
    exact Int.eq_of_mul_eq_mul_right hd a1
  have n1 : q.natAbs ∣ (den n d).natAbs := by
    have z : q.natAbs ∣ p.natAbs * (den n d).natAbs := by
      rw [← Int.natAbs_mul, key, Int.natAbs_mul]
      exact Nat.dvd_mul_right _ _
    have c : Nat.Coprime q.natAbs p.natAbs := by
      show Nat.gcd q.natAbs p.natAbs = 1
      rw [Nat.gcd_comm]; exact hc
    exact c.dvd_of_dvd_mul_left z
  have n2 : (den n d).natAbs ∣ q.natAbs := by
    have z : (den n d).natAbs ∣ q.natAbs * (num n d).natAbs := by
      rw [← Int.natAbs_mul, ← key, Int.natAbs_mul]
      exact Nat.dvd_mul_left _ _
    have c : Nat.Coprime (den n d).natAbs (num n d).natAbs := by
      show Nat.gcd (den n d).natAbs (num n d).natAbs = 1
      rw [Nat.gcd_comm]; exact hk
    exact c.dvd_of_dvd_mul_right z
  have e1 : den n d = q := by
    have := Nat.dvd_antisymm n1 n2
    omega
  refine ⟨?_, e1⟩
  rw [e1] at key
  have : q * p = q * num n d := by rw [Int.mul_comm q p]; exact key
  exact (Int.eq_of_mul_eq_mul_left (Int.ne_of_gt hq) this).symm
theorem self {p q : Int} (hq : 0 < q) (hc : Int.gcd p q = 1) : num p q = p ∧ den p q = q := uniq (Int.ne_of_gt hq) hq hc (Int.mul_comm p q)
theorem turned {n d : Int} (h : d ≠ 0) : num (0 - n) (0 - d) = num n d ∧ den (0 - n) (0 - d) = den n d := by
  refine uniq (by omega) (den_pos h) (cop h) ?_
  have := cross n d
  rw [Int.mul_sub, Int.mul_sub, this, Int.mul_zero, Int.mul_zero]
theorem abs_le_num {n d : Int} (h : d ≠ 0) : (num n d).natAbs ≤ n.natAbs := by
  have e := congrArg Int.natAbs (num_mul n d)
  rw [Int.natAbs_mul] at e
  have : 1 ≤ (dv n d).natAbs := by rw [dv_abs]; exact gcd_pos h
  calc (num n d).natAbs = (num n d).natAbs * 1 := (Nat.mul_one _).symm
    _ ≤ (num n d).natAbs * (dv n d).natAbs := Nat.mul_le_mul_left _ this
    _ = n.natAbs := e
theorem abs_le_den {n d : Int} (h : d ≠ 0) : (den n d).natAbs ≤ d.natAbs := by
  have e := congrArg Int.natAbs (den_mul n d)
  rw [Int.natAbs_mul] at e
  have : 1 ≤ (dv n d).natAbs := by rw [dv_abs]; exact gcd_pos h
  calc (den n d).natAbs = (den n d).natAbs * 1 := (Nat.mul_one _).symm
    _ ≤ (den n d).natAbs * (dv n d).natAbs := Nat.mul_le_mul_left _ this
    _ = d.natAbs := e
end Fr
namespace Fr
def nd : List (Int × Int) → Int × Int
  | [] => (0, 1)
  | x :: l => (x.1 * (nd l).2 + (nd l).1 * x.2, x.2 * (nd l).2)
theorem congr {n d n' d' : Int} (h : d ≠ 0) (h' : d' ≠ 0) (e : n * d' = n' * d) : num n d = num n' d' ∧ den n d = den n' d' := by
  have c := cross n' d'
  refine uniq h (den_pos h') (cop h') ?_

  have : (num n' d' * d) * d' = (den n' d' * n) * d' := by
    calc (num n' d' * d) * d' = (num n' d' * d') * d := by grind
      _ = (den n' d' * n') * d := by rw [c]
      _ = den n' d' * (n' * d) := by grind
      _ = den n' d' * (n * d') := by rw [e]
      _ = (den n' d' * n) * d' := by grind
  exact Int.eq_of_mul_eq_mul_right h' this
end Fr
set_option maxHeartbeats 4000000
namespace L3
open PySem PySem.Spec PyProof.Rows L2
open PySem.W (Dat kqdOk)
theorem eqB_int (a b : Int) : eqB (.int a) (.int b) = some (decide (a = b)) := by
  have h : eqB (.int a) (.int b) = if kqdOk 9 (.int a) = true ∧ kqdOk 9 (.int b) = true then some (decD (.int a) (.int b)) else none := rfl
  rw [h, if_pos ⟨rfl, rfl⟩]
  congr 1
  by_cases e : a = b
  · rw [decD_t (by rw [e]), decide_eq_true e]
  · rw [decD_f (fun z => e (by injection z)), decide_eq_false e]
theorem eqD_int (a b : Int) : eqD (.int a) (.int b) = some (.bool (decide (a = b))) := by unfold eqD; rw [eqB_int]; rfl
theorem neD_int (a b : Int) : neD (.int a) (.int b) = some (.bool (!decide (a = b))) := by unfold neD; rw [eqB_int]; rfl
theorem subD_int (a b : Int) : subD (.int a) (.int b) = some (.int (a - b)) := iD_ok trivial
theorem ltD_int (a b : Int) : ltD (.int a) (.int b) = some (.bool (decide (a < b))) := iD_ok trivial
theorem gtD_int (a b : Int) : gtD (.int a) (.int b) = some (.bool (decide (b < a))) := iD_ok trivial
theorem geD_int (a b : Int) : geD (.int a) (.int b) = some (.bool (decide (b ≤ a))) := iD_ok trivial
theorem modD_int {a b : Int} (h : b ≠ 0) : modD (.int a) (.int b) = some (.int (a.fmod b)) := iD_ok h
theorem fdivD_int {a b : Int} (h : b ≠ 0) (h2 : b.natAbs.log2 < 9000) : fdivD (.int a) (.int b) = some (.int (a.fdiv b)) := iD_ok ⟨h, h2⟩
theorem mulD_int {a b : Int} (h : IntMulOk a b) : mulD (.int a) (.int b) = some (.int (a * b)) := iD_ok h
theorem addD_int (a b : Int) : addD (.int a) (.int b) = some (.int (a + b)) := rfl
theorem absD_int (c : Int) : absD [.int c] = some (.int (c.natAbs : Int)) := by
  show some (Dat.int (if c < 0 then -c else c)) = _
  congr 2
  split <;> omega
section
variable {g1 g2 : Gam → Option Fl} {Γ Γ' : Gam} {f : Rho → Option Dat} {ft : Rho → Option Bool} {d : Dat} {i : Nat} {fl : Fl}
theorem sSeq_nx (h : g1 Γ = some (.nx Γ')) : sSeq g1 g2 Γ = g2 Γ' := by unfold sSeq; rw [h]; rfl
theorem sSeq_rt (h : g1 Γ = some (.rt d)) : sSeq g1 g2 Γ = some (.rt d) := by unfold sSeq; rw [h]; rfl
theorem sSet_eq (h : f (immV Γ) = some d) : sSet i f Γ = some (.nx (Γ.set i (some (.imm d)))) := by unfold sSet; rw [h]
theorem sIf_t (h : ft (allV Γ) = some true) : sIf ft g1 g2 Γ = g1 Γ := by unfold sIf; rw [h]; rfl
theorem sIf_f (h : ft (allV Γ) = some false) : sIf ft g1 g2 Γ = g2 Γ := by unfold sIf; rw [h]; rfl
theorem sRet_eq (h : f (allV Γ) = some d) : sRet f Γ = some (.rt d) := by unfold sRet; rw [h]; rfl
theorem sAsg_eq {gt : Dat → Option Asg} {as : Asg} (h : f (immV Γ) = some d) (h2 : gt d = some as) : sAsg gt f Γ = some (.nx (setG Γ as)) := by unfold sAsg; rw [h]; show (gt d).map _ = _; rw [h2]; rfl
theorem whileF_f {gb : Gam → Option Fl} {n : Nat} (h : ft (allV Γ) = some false) : whileF ft gb (n + 1) Γ = some (.nx Γ) := by show (ft (allV Γ)).bind _ = _; rw [h]; rfl
theorem whileF_t {gb : Gam → Option Fl} {n : Nat} (h : ft (allV Γ) = some true) (h2 : gb Γ = some (.nx Γ')) : whileF ft gb (n + 1) Γ = whileF ft gb n Γ' := by
  show (ft (allV Γ)).bind _ = _
  rw [h]
  show (gb Γ).bind _ = _
  rw [h2]; rfl
theorem runF_rt {N : List Str} {g : Gam → Option Fl} {ds : List Dat} (h : g (startG N ds) = some (.rt d)) : runF N g ds = some d := by unfold runF; rw [h]
end
end L3
namespace L3
open PySem PySem.Spec PyProof.Rows L2
open PySem.W (Dat kqdOk)
theorem compL_all {gt : Dat → Option Asg} {fe : Rho → Option Dat} {ρ0 : Rho} : ∀ (its out : List Dat), its.length = out.length → (∀ (i : Nat) (d o : Dat), its[i]? = some d → out[i]? = some o → ∃ as, gt d = some as ∧ fe (setR ρ0 as) = some o) → compL gt tYesF fe ρ0 its = some out
  | [], [], _, _ => rfl
  | [], _ :: _, h, _ => by simp at h
  | _ :: _, [], h, _ => by simp at h
  | d :: its, o :: out, h, st => by
    obtain ⟨as, e1, e2⟩ := st 0 d o rfl rfl
    have ih := compL_all its out (by simpa using h) fun i d' o' h1 h2 => st (i + 1) d' o' (by simpa using h1) (by simpa using h2)
    simp only [compL, e1, Option.bind_some, tYesF, if_true, e2, ih, Option.map_some]
end L3
namespace L3
open PySem PySem.Spec PyProof.Rows L2
open PySem.W (Dat kqdOk)
theorem for_fold {gt : Dat → Option Asg} {gb : Gam → Option Fl} {β τ : Type} (enc : β → Dat) (St : τ → Gam → Prop) (Q : τ → List β → Prop) (nxt : τ → β → τ)
    (step : ∀ s p l Γ, Q s (p :: l) → St s Γ → ∃ as, gt (enc p) = some as ∧ ∃ Γ', gb (setG Γ as) = some (.nx Γ') ∧ St (nxt s p) Γ' ∧ Q (nxt s p) l) : ∀ (l : List β) (s : τ) (Γ : Gam), Q s l → St s Γ → ∃ Γ', forL gt gb (l.map enc) Γ = some (.nx Γ') ∧ St (l.foldl nxt s) Γ'
  | [], s, Γ, _, h => ⟨Γ, rfl, h⟩
  | p :: l, s, Γ, q, h => by
    obtain ⟨as, e1, Γ1, e2, h1, q1⟩ := step s p l Γ q h
    obtain ⟨Γ2, e3, h2⟩ := for_fold enc St Q nxt step l (nxt s p) Γ1 q1 h1
    refine ⟨Γ2, ?_, h2⟩
    rw [List.map_cons]
    show (gt (enc p)).bind _ = _
    rw [e1]
    show (gb (setG Γ as)).bind _ = _
    rw [e2]
    exact e3
theorem forI_fold {gt : Dat → Option Asg} {gb : Gam → Option Fl} {fi : Rho → Option (List Dat)} {β τ : Type} (enc : β → Dat) (St : τ → Gam → Prop) (Q : τ → List β → Prop) (nxt : τ → β → τ) {l : List β} {s : τ} {Γ : Gam} (hf : fi (immV Γ) = some (l.map enc)) (hq : Q s l) (hs : St s Γ)
    (step : ∀ s p l Γ, Q s (p :: l) → St s Γ → ∃ as, gt (enc p) = some as ∧ ∃ Γ', gb (setG Γ as) = some (.nx Γ') ∧ St (nxt s p) Γ' ∧ Q (nxt s p) l) : ∃ Γ', sForI gt gb fi Γ = some (.nx Γ') ∧ St (l.foldl nxt s) Γ' := by
  obtain ⟨Γ', e, h⟩ := for_fold (gt := gt) (gb := gb) enc St Q nxt step l s Γ hq hs
  refine ⟨Γ', ?_, h⟩
  unfold sForI
  rw [hf]
  exact e
theorem foldl_two {α β γ : Type} (f : α → γ → α) (g : β → γ → β) : ∀ (l : List γ) (a : α) (b : β), l.foldl (fun (s : α × β) p => (f s.1 p, g s.2 p)) (a, b) = (l.foldl f a, l.foldl g b)
  | [], a, b => rfl
  | p :: l, a, b => foldl_two f g l (f a p) (g b p)
theorem flat_rep {α : Type} (d : α) : ∀ m : Nat, (List.replicate m [d]).flatten = List.replicate m d
  | 0 => rfl
  | m + 1 => by rw [List.replicate_succ, List.flatten_cons, flat_rep d m, List.replicate_succ]; rfl
theorem seq_ex {g1 g2 : Gam → Option Fl} {Γ : Gam} {fl : Fl} (I : Gam → Prop) (h : ∃ Γ', g1 Γ = some (.nx Γ') ∧ I Γ') (fin : ∀ Γ', I Γ' → g2 Γ' = some fl) : sSeq g1 g2 Γ = some fl := by
  obtain ⟨Γ', e, h⟩ := h
  unfold sSeq
  rw [e]
  exact fin Γ' h
end L3
namespace L3
open PySem PySem.Spec PyProof.Rows L2
open PySem.W (Dat kqdOk)
theorem forI_two {gt : Dat → Option Asg} {gb : Gam → Option Fl} {fi : Rho → Option (List Dat)} {β τ : Type} (enc : β → Dat) (St : τ → Gam → Prop) (nxt : τ → β → τ) (bad : β → Prop) {r : Dat} {l : List β} {s : τ} {Γ : Gam} (hf : fi (immV Γ) = some (l.map enc)) (hs : St s Γ)
    (good : ∀ s p Γ, ¬ bad p → St s Γ → ∃ as, gt (enc p) = some as ∧ ∃ Γ', gb (setG Γ as) = some (.nx Γ') ∧ St (nxt s p) Γ') (bd : ∀ s p Γ, bad p → St s Γ → ∃ as, gt (enc p) = some as ∧ gb (setG Γ as) = some (.rt r)) :
    (∃ Γ', sForI gt gb fi Γ = some (.nx Γ') ∧ St (l.foldl nxt s) Γ' ∧ ∀ p ∈ l, ¬ bad p) ∨ (sForI gt gb fi Γ = some (.rt r) ∧ ∃ p ∈ l, bad p) := by
  have e : sForI gt gb fi Γ = forL gt gb (l.map enc) Γ := by unfold sForI; rw [hf]; rfl
  rw [e]
  clear e hf
  induction l generalizing s Γ with
  | nil => exact .inl ⟨Γ, rfl, hs, fun p hp => by simp at hp⟩
  | cons p l ih =>
    rw [List.map_cons]
    by_cases c : bad p
    · obtain ⟨as, e1, e2⟩ := bd s p Γ c hs
      refine .inr ⟨?_, p, List.mem_cons_self, c⟩
      show (gt (enc p)).bind _ = _
      rw [e1]
      show (gb (setG Γ as)).bind _ = _
      rw [e2]; rfl
    · obtain ⟨as, e1, Γ1, e2, h1⟩ := good s p Γ c hs
      have e3 : forL gt gb (enc p :: l.map enc) Γ = forL gt gb (l.map enc) Γ1 := by
        show (gt (enc p)).bind _ = _
        rw [e1]
        show (gb (setG Γ as)).bind _ = _
        rw [e2]; rfl
      rw [e3]
      rcases ih h1 with ⟨Γ', a, b, d⟩ | ⟨a, q, hq, b⟩
      · exact .inl ⟨Γ', a, b, fun q hq => (List.mem_cons.mp hq).elim (fun z => by rw [z]; exact c) (d q)⟩
      · exact .inr ⟨a, q, List.mem_cons_of_mem _ hq, b⟩
theorem seq_two {g1 g2 : Gam → Option Fl} {Γ : Gam} {fl : Fl} {r : Dat} {I : Gam → Prop} {C B : Prop} (h : (∃ Γ', g1 Γ = some (.nx Γ') ∧ I Γ' ∧ C) ∨ (g1 Γ = some (.rt r) ∧ B)) (k1 : ∀ Γ', C → I Γ' → g2 Γ' = some fl) (k2 : B → fl = .rt r) : sSeq g1 g2 Γ = some fl := by
  rcases h with ⟨Γ', e, h, c⟩ | ⟨e, b⟩
  · unfold sSeq; rw [e]; exact k1 Γ' c h
  · unfold sSeq; rw [e, k2 b]; rfl
end L3
namespace L3
open PySem PySem.Spec PyProof.Rows L2
open PySem.W (Dat kqdOk)
section
variable {ft gt : Rho → Option Bool} {f g : Rho → Option Dat} {ρ : Rho} {a b : Bool}
theorem fAndT_b (hf : ft ρ = some a) (hg : gt ρ = some b) : fAndT ft gt ρ = some (a && b) := by
  unfold fAndT; rw [hf]
  cases a
  · rfl
  · exact hg
theorem fOrT_b (hf : ft ρ = some a) (hg : gt ρ = some b) : fOrT ft gt ρ = some (a || b) := by
  unfold fOrT; rw [hf]
  cases a
  · exact hg
  · rfl
theorem fAnd_b (hf : f ρ = some (.bool a)) (hg : g ρ = some (.bool b)) : fAnd f g ρ = some (.bool (a && b)) := by
  unfold fAnd; rw [hf]
  cases a
  · rfl
  · exact hg
theorem fOr_b (hf : f ρ = some (.bool a)) (hg : g ρ = some (.bool b)) : fOr f g ρ = some (.bool (a || b)) := by
  unfold fOr; rw [hf]
  cases a
  · exact hg
  · rfl
end
end L3
namespace L3
open PySem PySem.Spec PyProof.Rows L2
open PySem.W (Dat kqdOk)
theorem for_all {gt : Dat → Option Asg} {gb : Gam → Option Fl} (I : Gam → Prop) : ∀ {ds : List Dat} {Γ : Gam}, I Γ → (∀ d ∈ ds, ∀ Γ, I Γ → ∃ as Γ', gt d = some as ∧ gb (setG Γ as) = some (.nx Γ') ∧ I Γ') → ∃ Γ', forL gt gb ds Γ = some (.nx Γ') ∧ I Γ'
  | [], Γ, h, _ => ⟨Γ, rfl, h⟩
  | d :: ds, Γ, h, st => by
    obtain ⟨as, Γ1, e1, e2, h1⟩ := st d List.mem_cons_self Γ h
    obtain ⟨Γ2, e3, h2⟩ := for_all I (ds := ds) h1 fun d hd => st d (List.mem_cons_of_mem _ hd)
    refine ⟨Γ2, ?_, h2⟩
    show (gt d).bind _ = _
    rw [e1]
    show (gb (setG Γ as)).bind _ = _
    rw [e2]
    exact e3
theorem for_nx {gt : Dat → Option Asg} {gb : Gam → Option Fl} {f : Rho → Option Dat} (I : Gam → Prop) {d : Dat} {ds : List Dat} {Γ : Gam} (hf : f (immV Γ) = some d) (hi : itemsD d = some ds) (h0 : I Γ) (st : ∀ d ∈ ds, ∀ Γ, I Γ → ∃ as Γ', gt d = some as ∧ gb (setG Γ as) = some (.nx Γ') ∧ I Γ') : ∃ Γ', sFor gt gb f Γ = some (.nx Γ') ∧ I Γ' := by
  obtain ⟨Γ', e, h⟩ := for_all I (gt := gt) (gb := gb) h0 st
  refine ⟨Γ', ?_, h⟩
  unfold sFor
  rw [hf]
  show (itemsD d).bind _ = _
  rw [hi]
  exact e
end L3
namespace L3
open PySem PySem.Spec PyProof.Rows L2
open PySem.W (Dat kqdOk)
theorem fcomp_ok {cap : List (Option Nat)} {gt : Dat → Option Asg} {ft : Rho → Option Bool} {fe : Rho → Option Dat} {fi : Rho → Option Dat} {ρ : Rho} {d : Dat} {ds out : List Dat} (h : fi ρ = some d) (hi : itemsD d = some ds) (hl : ds.length < sizeLine) (hc : compL gt ft fe (capR cap ρ) ds = some out) : fL (fComp cap gt ft fe fi) ρ = some (.list out) := by
  unfold fL fComp
  rw [h, Option.bind_some, hi, Option.bind_some, if_pos hl, hc]; rfl
theorem cons1 {f : Rho → Option Dat} {ρ : Rho} {d : Dat} (h : f ρ = some d) : fCons f fNil ρ = some [d] := by
  unfold fCons
  rw [h]; rfl
theorem call1 {g : List Dat → Option Dat} {f : Rho → Option Dat} {ρ : Rho} {d r : Dat} (h : f ρ = some d) (hg : g [d] = some r) : fCall g (fCons f fNil) ρ = some r := by
  unfold fCall
  rw [cons1 h]; exact hg
theorem compM {gt : Dat → Option Asg} {fe : Rho → Option Dat} {ρ0 : Rho} {β : Type} (enc enc2 : β → Dat) : ∀ (l : List β), (∀ x ∈ l, ∃ as, gt (enc x) = some as ∧ fe (setR ρ0 as) = some (enc2 x)) → compL gt tYesF fe ρ0 (l.map enc) = some (l.map enc2)
  | [], _ => rfl
  | x :: l, h => by
    obtain ⟨as, e1, e2⟩ := h x List.mem_cons_self
    have ih := compM enc enc2 l fun y hy => h y (List.mem_cons_of_mem _ hy)
    simp only [List.map_cons, compL, e1, Option.bind_some, tYesF, if_true, e2, ih, Option.map_some]
end L3
namespace L3
open PySem PySem.Spec PyProof.Rows L2
open PySem.W (Dat kqdOk)
theorem forL_nx {gt : Dat → Option Asg} {gb : Gam → Option Fl} {d : Dat} {ds : List Dat} {Γ Γ' : Gam} {as : Asg} (h1 : gt d = some as) (h2 : gb (setG Γ as) = some (.nx Γ')) : forL gt gb (d :: ds) Γ = forL gt gb ds Γ' := by
  show (gt d).bind _ = _
  rw [h1]
  show (gb (setG Γ as)).bind _ = _
  rw [h2]; rfl
theorem forL_rt {gt : Dat → Option Asg} {gb : Gam → Option Fl} {d v : Dat} {ds : List Dat} {Γ : Gam} {as : Asg} (h1 : gt d = some as) (h2 : gb (setG Γ as) = some (.rt v)) : forL gt gb (d :: ds) Γ = some (.rt v) := by
  show (gt d).bind _ = _
  rw [h1]
  show (gb (setG Γ as)).bind _ = _
  rw [h2]; rfl
theorem sFor_items {gt : Dat → Option Asg} {gb : Gam → Option Fl} {f : Rho → Option Dat} {Γ : Gam} {d : Dat} {ds : List Dat} (hf : f (immV Γ) = some d) (hi : itemsD d = some ds) : sFor gt gb f Γ = forL gt gb ds Γ := by
  unfold sFor
  rw [hf]
  show (itemsD d).bind _ = _
  rw [hi]; rfl
end L3
namespace L3
open PySem PySem.Spec PyProof.Rows L2
open PySem.W (Dat kqdOk)
abbrev nat (p : Nat) : Dat := .int (p : Int)
theorem rngJ (j : Int) (h1 : 0 ≤ j) (h2 : j ≤ 2000) : rng1 [.int j] = some (rngD 0 j.toNat) := if_pos ⟨by omega, by omega⟩
theorem rngN (n : Nat) (h : n ≤ 2000) : rng1 [.int (n : Int)] = some (rngD 0 n) := by
  have := rngJ (n : Int) (by omega) (by omega)
  rw [Int.toNat_natCast] at this
  exact this
theorem rngZ {n : Nat} (h : n ≤ 1000) : rng1 [.int (n : Int)] = some ((List.range' 0 n).map nat) := by
  rw [rngN n (by omega)]
  unfold rngD
  rw [List.range_eq_range']
  congr 1
  exact List.map_congr_left fun i _ => by rw [Int.zero_add]
theorem forN_ex {gt : Dat → Option Asg} {gb : Gam → Option Fl} (I : Nat → Gam → Prop) : ∀ (n j : Nat) (Γ : Gam), I j Γ → (∀ i Γ, j ≤ i → i < j + n → I i Γ → ∃ as, gt (nat i) = some as ∧ ∃ Γ', gb (setG Γ as) = some (.nx Γ') ∧ I (i + 1) Γ') → ∃ Γ', forL gt gb ((List.range' j n).map nat) Γ = some (.nx Γ') ∧ I (j + n) Γ'
  | 0, j, Γ, h, _ => ⟨Γ, rfl, h⟩
  | n + 1, j, Γ, h, st => by
    obtain ⟨as, e1, Γ1, e2, h1⟩ := st j Γ (Nat.le_refl _) (by omega) h
    obtain ⟨Γ2, e3, h2⟩ := forN_ex I n (j + 1) Γ1 h1 fun i Γ a b => st i Γ (by omega) (by omega)
    refine ⟨Γ2, ?_, by rw [show j + (n + 1) = j + 1 + n by omega]; exact h2⟩
    rw [List.range'_succ, List.map_cons]
    show (gt (nat j)).bind _ = _
    rw [e1]
    show (gb (setG Γ as)).bind _ = _
    rw [e2]
    exact e3
theorem forH_ex {gt : Dat → Option Asg} {gb : Gam → Option Fl} {hs : Gam → Option (List Dat × Gam)} {Γ Γ1 : Gam} {n : Nat} (I : Nat → Gam → Prop) (h : hs Γ = some ([.int (n : Int)], Γ1)) (hn : n ≤ 1000) (h0 : I 0 Γ1) (st : ∀ i Γ, i < n → I i Γ → ∃ as, gt (nat i) = some as ∧ ∃ Γ', gb (setG Γ as) = some (.nx Γ') ∧ I (i + 1) Γ') : ∃ Γ', sForH gt gb (hRng rng1 hs) Γ = some (.nx Γ') ∧ I n Γ' := by
  obtain ⟨Γ', e, hi⟩ := forN_ex (gt := gt) (gb := gb) I n 0 Γ1 h0 fun i Γ _ b => st i Γ (by omega)
  rw [Nat.zero_add] at hi
  refine ⟨Γ', ?_, hi⟩
  have e2 : hRng rng1 hs Γ = some ((List.range' 0 n).map nat, Γ1) := by
    unfold hRng
    rw [h, Option.bind_some, rngZ hn]; rfl
  unfold sForH
  rw [e2]
  exact e
theorem seqR {g1 g2 : Gam → Option Fl} {Γ Γ' : Gam} {Pp : Fl → Prop} (h : g1 Γ = some (.nx Γ')) (k : ∃ d, Pp d ∧ g2 Γ' = some d) : ∃ d, Pp d ∧ sSeq g1 g2 Γ = some d := by
  obtain ⟨d, h1, h2⟩ := k
  exact ⟨d, h1, by rw [sSeq_nx h]; exact h2⟩
theorem seqX {g1 g2 : Gam → Option Fl} {Γ : Gam} {Pp : Fl → Prop} (I : Gam → Prop) (h : ∃ Γ', g1 Γ = some (.nx Γ') ∧ I Γ') (k : ∀ Γ', I Γ' → ∃ d, Pp d ∧ g2 Γ' = some d) : ∃ d, Pp d ∧ sSeq g1 g2 Γ = some d := by
  obtain ⟨Γ', h1, h2⟩ := h
  exact seqR h1 (k Γ' h2)
theorem exS {g1 g2 : Gam → Option Fl} {Γ Γ1 : Gam} {I : Gam → Prop} (h : g1 Γ = some (.nx Γ1)) (h2 : ∃ Γ', g2 Γ1 = some (.nx Γ') ∧ I Γ') : ∃ Γ', sSeq g1 g2 Γ = some (.nx Γ') ∧ I Γ' := by
  obtain ⟨Γ', e, i⟩ := h2
  exact ⟨Γ', by rw [sSeq_nx h]; exact e, i⟩
theorem runMx {N : List Str} {g : Gam → Option Fl} {ds es : List Dat} {Pp : Dat → List Dat → Prop} (h : ∃ fl : Fl, (∃ (d : Dat) (ds' : List Dat) (Γ : Gam), fl = .rm d Γ ∧ Γ[0]? = some (some (.own ds')) ∧ Pp d ds') ∧ g (startM N ds es) = some fl) : ∃ d ds', Pp d ds' ∧ runM N g ds es = some (d, ds') := by
  obtain ⟨fl, ⟨d, ds', Γ, rfl, h0, hp⟩, e⟩ := h
  refine ⟨d, ds', hp, ?_⟩
  unfold runM
  rw [e]
  show (match (Γ[0]? : Option (Option Slot)) with | some (some (.own ds')) => some (d, ds') | _ => none) = _
  rw [h0]
theorem sOwnN_eq {i : Nat} {f : Rho → Option (List Dat)} {Γ : Gam} {ds : List Dat} (h : f (allV Γ) = some ds) (hn : ds.all (noL 9) = true) : sOwnN i f Γ = some (.nx (Γ.set i (some (.own ds)))) := by
  unfold sOwnN
  rw [h, Option.bind_some, if_pos hn]
theorem fCatV_ok {fa fb : Rho → Option Dat} {ρ : Rho} {xs ys : List Dat} (ha : fa ρ = some (.list xs)) (hb : fb ρ = some (.list ys)) (h : xs.length + ys.length ≤ 1000) : fCatV fa fb ρ = some (xs ++ ys) := by
  unfold fCatV
  rw [ha, hb]
  show (if xs.length + ys.length ≤ sizeLine then some (xs ++ ys) else none) = _
  exact if_pos (Nat.le_of_lt (small1000 h))
theorem sIfH_t {ft : Gam → Option (Bool × Gam)} {g1 g2 : Gam → Option Fl} {Γ Γ' : Gam} (h : ft Γ = some (true, Γ')) : sIfH ft g1 g2 Γ = g1 Γ' := by unfold sIfH; rw [h]; rfl
theorem sIfH_f {ft : Gam → Option (Bool × Gam)} {g1 g2 : Gam → Option Fl} {Γ Γ' : Gam} (h : ft Γ = some (false, Γ')) : sIfH ft g1 g2 Γ = g2 Γ' := by unfold sIfH; rw [h]; rfl
theorem lst2 {fa fb : Rho → Option Dat} {ρ : Rho} {a b : Dat} (ha : fa ρ = some a) (hb : fb ρ = some b) : fLst (fCons fa (fCons fb fNil)) ρ = some (.list [a, b]) := by
  have e : fCons fa (fCons fb fNil) ρ = some [a, b] := by
    unfold fCons
    rw [ha, hb]; rfl
  unfold fLst
  rw [e]
  show (if 2 ≤ sizeLine then some (Dat.list [a, b]) else none) = _
  rw [if_pos (Nat.le_of_lt (small1000 (by decide)))]
end L3
namespace K15
open PySem PySem.Spec PyProof.Rows L2 L3
open PySem.W (Dat kqdOk)
local macro_rules | `(tactic| simp! [$xs,*]) => `(tactic| simp only [runF, startG, sSeq, sSet, sIf, sRet, sSkip, sAsg, fTest, fTru, L3.f2, L3.f1, fVar, fC, fCons, fNil, fTup, fLst, fFn, fCall, fAnd, fOr, fNot, fAndT, fOrT, fNotT, immV, allV, asB, truD, negD, List.map_cons, List.map_nil, List.getElem?_cons_zero, List.getElem?_cons_succ, Option.join_some, Option.bind_some, Option.map_some, List.set_cons_zero, List.set_cons_succ, List.length_cons, List.length_nil, List.cons_append, List.nil_append, List.replicate, Nat.add_sub_cancel, Nat.zero_add, Nat.reduceAdd, Nat.reduceSub, if_true, if_false, Bool.false_eq_true, Bool.not_true, Bool.not_false, decide_true, decide_false, reduceIte, reduceCtorEq, Nat.reduceEqDiff, Nat.reduceLeDiff, sOwn, sWhile, whileF, sApp, fSz, gd, ixD, fL, fComp, itemsD, compL, aName, setR, capR, List.foldl_cons, List.foldl_nil, Option.map_none, Option.bind_none, List.isEmpty, List.reverse_cons, List.reverse_nil, and_self, and_true, true_and, Option.some.injEq, aTup, aCons, aNil, setG, List.append_nil, hPure, L3.h2, hTest, hNil, hCons, hTup, hLst, hCall, hFn, hMut, runM, startM, sSetH, sAsgH, sRetM, sIfH, sSetIx, fNew, sForI, iRng, iZipD, zipL, hL, scD, tupleD, List.length_set, List.append_eq, $xs,*])
local macro_rules | `(tactic| dsimp! [$xs,*]) => `(tactic| simp only [runF, startG, sSeq, sSet, sIf, sRet, sSkip, sAsg, fTest, fTru, L3.f2, L3.f1, fVar, fC, fCons, fNil, fTup, fLst, fFn, fCall, fAnd, fOr, fNot, fAndT, fOrT, fNotT, immV, allV, asB, truD, negD, List.map_cons, List.map_nil, List.getElem?_cons_zero, List.getElem?_cons_succ, Option.join_some, Option.bind_some, Option.map_some, List.set_cons_zero, List.set_cons_succ, List.length_cons, List.length_nil, List.cons_append, List.nil_append, List.replicate, Nat.add_sub_cancel, Nat.zero_add, Nat.reduceAdd, Nat.reduceSub, if_true, if_false, Bool.false_eq_true, Bool.not_true, Bool.not_false, decide_true, decide_false, reduceIte, reduceCtorEq, Nat.reduceEqDiff, Nat.reduceLeDiff, sOwn, sWhile, whileF, sApp, fSz, gd, fL, fComp, itemsD, compL, aName, setR, capR, List.foldl_cons, List.foldl_nil, Option.map_none, Option.bind_none, List.isEmpty, List.reverse_cons, List.reverse_nil, and_self, and_true, true_and, Option.some.injEq, aTup, aCons, aNil, setG, List.append_nil, hPure, L3.h2, hTest, hNil, hCons, hTup, hLst, hCall, hFn, hMut, runM, startM, sSetH, sAsgH, sRetM, sIfH, sSetIx, fNew, sForI, iRng, iZipD, zipL, hL, scD, tupleD, List.length_set, List.append_eq, $xs,*])
local macro_rules | `(tactic| simp!) => `(tactic| simp only [startG, List.map_cons, List.map_nil, List.length_cons, List.length_nil, List.cons_append, List.nil_append, List.replicate])
local macro_rules | `(tactic| dsimp!) => `(tactic| simp only [setG, List.foldl_cons, List.foldl_nil, List.set_cons_succ, List.set_cons_zero])
section
def top (i : Nat) : Stmt := PySem.Challenge.pw_stepjudge_k15_papers_of_two.main.body.getD i (.Pass ⟨0, 0, 0, 0⟩)
structure TX (mg : Str → Option Value) : Prop where
  abs : mg "abs" = none
  len : mg "len" = none
  int : mg "int" = none
  isinstance : mg "isinstance" = none
  tuple : mg "tuple" = none
  bool : mg "bool" = none
  range : mg "range" = none
  zip : mg "zip" = none
  list : mg "list" = none
  str : mg "str" = none
  all : mg "all" = none
  max : mg "max" = none
noncomputable section
variable {P : Program} {w : World} {K : Fg} {mg : Str → Option Value} {base : Heap} {f : Addr} {fd : FuncData}
theorem sz {n : Nat} (h : n ≤ 1000) : n ≤ sizeLine := Nat.le_of_lt (small1000 h)
def F_cd : List Dat → Option Dat
  | [.int a, .int b] => if 0 ≤ a ∧ 0 ≤ b then some (.int (Int.gcd a b)) else none
  | _ => none
def fuel1 : Gam → Nat
  | _ :: some (.imm (.int b)) :: _ => b.natAbs + 1
  | _ => 0
abbrev cdT : Rho → Option Bool := fTest (f2 neD (fVar 1) (fC (Dat.int 0)))
abbrev cdB : Gam → Option Fl := sSeq (sSet 2 (f2 modD (fVar 0) (fVar 1))) (sSeq (sSet 0 (fVar 1)) (sSet 1 (fVar 2)))
theorem cdT_eq (x z : Option Slot) (b : Int) (r : Gam) : cdT (allV (x :: some (.imm (.int b)) :: r)) = some (!decide (b = 0)) := by
  show (neD (.int b) (.int 0)).bind asB = _
  rw [neD_int]; rfl
theorem cd_loop : ∀ (n : Nat) (a b : Int) (r : Option Slot), 0 ≤ a → 0 ≤ b → b.natAbs < n → ∃ r', whileF cdT cdB n [some (.imm (.int a)), some (.imm (.int b)), r] = some (.nx [some (.imm (.int (Int.gcd a b))), some (.imm (.int 0)), r'])
  | 0, _, _, _, _, _, h => by omega
  | n + 1, a, b, r, ha, hb, h => by
    by_cases e : b = 0
    · subst e
      refine ⟨r, ?_⟩
      rw [whileF_f (by rw [cdT_eq _ none]; rfl)]
      congr
      rw [Int.gcd_zero]; omega
    · have hm0 : 0 ≤ a.fmod b := Int.fmod_nonneg_of_pos a (by omega)
      have hm1 : a.fmod b < b := Int.fmod_lt_of_pos a (by omega)
      have hbody : cdB [some (.imm (.int a)), some (.imm (.int b)), r] = some (.nx [some (.imm (.int b)), some (.imm (.int (a.fmod b))), some (.imm (.int (a.fmod b)))]) := by
        refine (sSeq_nx (sSet_eq (d := .int (a.fmod b)) (modD_int e))).trans ?_
        refine (sSeq_nx (sSet_eq (d := .int b) rfl)).trans ?_
        exact sSet_eq (d := .int (a.fmod b)) rfl
      obtain ⟨r', q⟩ := cd_loop n b (a.fmod b) _ hb hm0 (by omega)
      refine ⟨r', ?_⟩
      rw [whileF_t (by rw [cdT_eq _ none, decide_eq_false e]; rfl) hbody, q, Fr.gcd_fmod a b (by omega)]
theorem d_cd (T : TX mg) (U : Fun K "common_divisor" "common_divisor" (top 1) f fd) (hm : mg "common_divisor" = some (.ref f)) (hB : Binds K fd ["a", "b"] []) : Dn P w K mg base 1 "common_divisor" ["a", "b"] 2 F_cd := by
  have nd : (["a", "b", "rest"] : List Str).Nodup := by decide +kernel
  refine dn_of U hm hB (N := ["a", "b", "rest"]) ⟨rfl, rfl, rfl, by decide +kernel, rfl, by decide +kernel, by decide +kernel⟩ rfl (fun cdv A outer s H E hr =>
    (psf_cons (psf_while fuel1 PassesOwn.never (pft_ne hr (pf_var 1) pf_int) (psf_cons (psf_set 2 nd (pf_mod (pf_var 0) (pf_var 1)))
    (psf_cons (psf_set 0 nd (pf_var 1))
    (psf_one (psf_set 1 nd (pf_var 2))))))
    (psf_one (psf_ret (pf_var 0))))) ?_
  intro ds d hl hF
  unfold F_cd at hF
  split at hF
  · rename_i a b
    split at hF
    · rename_i h
      cases hF
      obtain ⟨r', q⟩ := cd_loop (b.natAbs + 1) a b none h.1 h.2 (by omega)
      refine runF_rt ?_
      refine (sSeq_nx q).trans ?_
      exact sRet_eq rfl
    · cases hF
  · cases hF
def F_make : List Dat → Option Dat
  | [.int n, .int d] => if d ≠ 0 ∧ d.natAbs.log2 < 9000 then some (.tuple [.int (Fr.num n d), .int (Fr.den n d)]) else none
  | _ => none
theorem log2_le {a b : Nat} (h : a ≤ b) : a.log2 ≤ b.log2 := by
  by_cases ha : a = 0
  · subst ha; exact Nat.zero_le _
  · rw [Nat.le_log2 (by omega)]
    exact Nat.le_trans (Nat.log2_self_le ha) h
theorem d_make (T : TX mg) (Dcommon_divisor : Dn P w K mg base 1 "common_divisor" ["a", "b"] 2 F_cd) (U : Fun K "make" "make" (top 2) f fd) (hm : mg "make" = some (.ref f)) (hB : Binds K fd ["n", "d"] []) : Dn P w K mg base 2 "make" ["n", "d"] 2 F_make := by
  have nd : (["n", "d", "divisor"] : List Str).Nodup := by decide +kernel
  refine dn_of U hm hB (N := ["n", "d", "divisor"]) ⟨rfl, rfl, rfl, by decide +kernel, rfl, by decide +kernel, by decide +kernel⟩ rfl (fun cdv A outer s H E hr =>
    (psf_cons (psf_set 2 nd (pf_fn Dcommon_divisor hr (pfa_cons (pf_abs T.abs (pfa_cons (pf_var 0) pfa_nil)) (pfa_cons (pf_abs T.abs (pfa_cons (pf_var 1) pfa_nil)) pfa_nil))))
    (psf_cons (psf_if (pft_lt (pf_var 1) pf_int) (psf_one (psf_set 2 nd (pf_neg (pf_var 2)))) psf_nil)
    (psf_one (psf_ret (pf_tup (k := 0) (pfa_cons (pf_fdiv (pf_var 0) (pf_var 2)) (pfa_cons (pf_fdiv (pf_var 1) (pf_var 2)) pfa_nil)))))))) ?_
  intro ds d' hl hF
  unfold F_make at hF
  split at hF
  · rename_i n d
    split at hF
    · rename_i h
      cases hF
      have e1 : F_cd [.int (n.natAbs : Int), .int (d.natAbs : Int)] = some (.int (Int.gcd n d)) := by
        have z : F_cd [.int (n.natAbs : Int), .int (d.natAbs : Int)] = if 0 ≤ (n.natAbs : Int) ∧ 0 ≤ (d.natAbs : Int) then some (.int (Int.gcd (n.natAbs : Int) (d.natAbs : Int))) else none := rfl
        rw [z, if_pos ⟨Int.natCast_nonneg _, Int.natCast_nonneg _⟩]
        simp [Int.gcd]
      have hb : (Fr.dv n d).natAbs.log2 < 9000 := by
        rw [Fr.dv_abs]
        refine Nat.lt_of_le_of_lt (log2_le ?_) h.2
        have := Int.gcd_dvd_right n d
        have := Int.natAbs_dvd_natAbs.mpr this
        exact Nat.le_of_dvd (by omega) (by simpa using this)
      have q1 : fdivD (.int n) (.int (Fr.dv n d)) = some (.int (Fr.num n d)) := iD_ok ⟨Fr.dv_ne h.1, hb⟩
      have q2 : fdivD (.int d) (.int (Fr.dv n d)) = some (.int (Fr.den n d)) := iD_ok ⟨Fr.dv_ne h.1, hb⟩
      have z2 : 2 ≤ sizeLine := sz (by decide)
      by_cases hd : d < 0
      · have e2 : -(Int.gcd n d : Int) = Fr.dv n d := by unfold Fr.dv; exact (if_pos hd).symm
        simp only [runF, startG, sSeq, sSet, sIf, sRet, sSkip, sAsg, fTest, fTru, f2, f1, fVar, fC, fCons, fNil, fTup, fLst, fFn, fCall, fAnd, fOr, fNot, fAndT, fOrT, fNotT, immV, allV, asB, truD, negD, List.map_cons, List.map_nil, List.getElem?_cons_zero, List.getElem?_cons_succ, Option.join_some, Option.bind_some, Option.map_some, List.set_cons_zero, List.set_cons_succ, List.length_cons, List.length_nil, List.cons_append, List.nil_append, List.replicate, Nat.add_sub_cancel, Nat.zero_add, Nat.reduceAdd, Nat.reduceSub, if_true, if_false, Bool.false_eq_true, Bool.not_true, Bool.not_false, decide_true, decide_false, reduceIte, reduceCtorEq, Nat.reduceEqDiff, Nat.reduceLeDiff, absD_int, e1, ltD_int, hd, e2, q1, q2, z2]
      · have e2 : (Int.gcd n d : Int) = Fr.dv n d := by unfold Fr.dv; exact (if_neg hd).symm
        simp only [runF, startG, sSeq, sSet, sIf, sRet, sSkip, sAsg, fTest, fTru, f2, f1, fVar, fC, fCons, fNil, fTup, fLst, fFn, fCall, fAnd, fOr, fNot, fAndT, fOrT, fNotT, immV, allV, asB, truD, negD, List.map_cons, List.map_nil, List.getElem?_cons_zero, List.getElem?_cons_succ, Option.join_some, Option.bind_some, Option.map_some, List.set_cons_zero, List.set_cons_succ, List.length_cons, List.length_nil, List.cons_append, List.nil_append, List.replicate, Nat.add_sub_cancel, Nat.zero_add, Nat.reduceAdd, Nat.reduceSub, if_true, if_false, Bool.false_eq_true, Bool.not_true, Bool.not_false, decide_true, decide_false, reduceIte, reduceCtorEq, Nat.reduceEqDiff, Nat.reduceLeDiff, absD_int, e1, ltD_int, hd, e2, q1, q2, z2]
    · cases hF
  · cases hF
theorem log2_small {n k : Nat} (hk : 0 < k) (h : n < 2 ^ k) : n.log2 < k := by
  by_cases e : n = 0
  · subst e; simpa using hk
  · exact (Nat.log2_lt e).mpr h
theorem atI2_0 (a b : Dat) : atI [a, b] 0 = some a := rfl
theorem atI2_1 (a b : Dat) : atI [a, b] 1 = some b := rfl
theorem fmod_bd (a : Int) {b : Int} (h : 0 < b) : 0 ≤ a.fmod b ∧ a.fmod b < b := ⟨Int.fmod_nonneg_of_pos a h, Int.fmod_lt_of_pos a h⟩
theorem mulR (a : Int) {b : Int} (h1 : -(2 ^ 64) < b) (h2 : b < 2 ^ 64) : mulD (.int a) (.int b) = some (.int (a * b)) := mulD_int (.of_right (intBits_le_64 h1 h2))
theorem pow18 : powD (.int 10) (.int 18) = some (.int (10 ^ 18)) := iD_ok (by unfold CPow; decide)
theorem pow30 : powD (.int 10) (.int 30) = some (.int (10 ^ 30)) := iD_ok (by unfold CPow; decide)
theorem eqB_same {d : Dat} (h : kqdOk 9 d = true) (h1 : ∀ b, d ≠ .bool b) (h2 : ∀ b, d ≠ .str b) : eqB d d = some true := by
  unfold eqB
  split
  · exact absurd rfl (h1 _)
  · exact absurd rfl (h2 _)
  · rw [if_pos ⟨h, h⟩, decD_t rfl]
theorem bits_le {x : Int} {k : Nat} (hk : 0 < k) (h : x.natAbs < 2 ^ k) : Builtin.Int.intBits x ≤ k := by
  have := log2_small hk h
  unfold Builtin.Int.intBits
  split
  · exact Nat.zero_le _
  · omega
theorem neD_str (x : Str) : neD (.str x) (.str x) = some (.bool false) := by
  show some (Dat.bool (!_)) = _
  simp
theorem eqD_bool (a b : Bool) : eqD (.bool a) (.bool b) = some (.bool (a == b)) := rfl
structure Md (x : Int) : Prop where
  lt : x.natAbs < 2 ^ 4000
theorem pw (a b : Nat) : 2 ^ a * 2 ^ b = 2 ^ (a + b) := (Nat.pow_add 2 a b).symm
theorem Md.mul {a b : Int} (ha : Md a) (hb : Md b) : (a * b).natAbs < 2 ^ 8000 := by
  rw [Int.natAbs_mul]
  have h := Nat.mul_lt_mul'' ha.lt hb.lt
  rw [pw] at h
  exact h
theorem mulM {a b : Int} (ha : Md a) (hb : Md b) : mulD (.int a) (.int b) = some (.int (a * b)) :=
  mulD_int (.of_le (bits_le (k := 4000) (by decide) ha.lt) (bits_le (k := 4000) (by decide) hb.lt) (by decide))
theorem make_ok {n d : Int} (h : d ≠ 0) (hb : d.natAbs < 2 ^ 8000) : F_make [.int n, .int d] = some (.tuple [.int (Fr.num n d), .int (Fr.den n d)]) :=
  if_pos ⟨h, Nat.lt_trans (log2_small (k := 8000) (by decide) hb) (by decide)⟩
structure Gd (p q : Int) : Prop where
  pos : 0 < q
  cop : Int.gcd p q = 1
  mp : Md p
  mq : Md q
abbrev fr (p q : Int) : Dat := .tuple [.int p, .int q]
def F_two (g : Int → Int → Int → Int → Option Dat) : List Dat → Option Dat := open Classical in fun ds => match ds with
  | [.tuple [.int p, .int q], .tuple [.int r, .int s]] => if Gd p q ∧ Gd r s then g p q r s else none
  | _ => none
theorem F_two_ok {g : Int → Int → Int → Int → Option Dat} {p q r s : Int} (h : Gd p q) (h' : Gd r s) : F_two g [fr p q, fr r s] = g p q r s := by
  unfold F_two
  exact if_pos ⟨h, h'⟩
abbrev mk (n d : Int) : Dat := fr (Fr.num n d) (Fr.den n d)
abbrev F_plus := F_two fun p q r s => some (mk (p * s + r * q) (q * s))
abbrev F_minus := F_two fun p q r s => some (mk (p * s - r * q) (q * s))
abbrev F_times := F_two fun p q r s => some (mk (p * r) (q * s))
abbrev F_below := F_two fun p q r s => some (.bool (decide (p * s < r * q)))
theorem two_inv {g : Int → Int → Int → Int → Option Dat} {ds : List Dat} {d : Dat} (h : F_two g ds = some d) : ∃ p q r s, ds = [fr p q, fr r s] ∧ Gd p q ∧ Gd r s ∧ g p q r s = some d := by
  unfold F_two at h
  split at h
  · split at h
    · rename_i hc
      exact ⟨_, _, _, _, rfl, hc.1, hc.2, h⟩
    · cases h
  · cases h
theorem d_plus (T : TX mg) (Dmake : Dn P w K mg base 2 "make" ["n", "d"] 2 F_make) (U : Fun K "plus" "plus" (top 3) f fd) (hm : mg "plus" = some (.ref f)) (hB : Binds K fd ["a", "b"] []) : Dn P w K mg base 3 "plus" ["a", "b"] 2 F_plus := by
  have nd : (["a", "b"] : List Str).Nodup := by decide +kernel
  refine dn_of U hm hB (N := ["a", "b"]) ⟨rfl, rfl, rfl, by decide +kernel, rfl, by decide +kernel, by decide +kernel⟩ rfl (fun cdv A outer s H E hr =>
    (psf_one (psf_ret (pf_fn Dmake hr (pfa_cons (pf_add (pf_mul (pf_ix (pf_var 0) pf_int) (pf_ix (pf_var 1) pf_int)) (pf_mul (pf_ix (pf_var 1) pf_int) (pf_ix (pf_var 0) pf_int))) (pfa_cons (pf_mul (pf_ix (pf_var 0) pf_int) (pf_ix (pf_var 1) pf_int)) pfa_nil)))))) ?_
  intro ds d hl hF
  obtain ⟨p, q, r, s, rfl, g1, g2, e⟩ := two_inv hF
  have z := Int.mul_ne_zero (Int.ne_of_gt g1.pos) (Int.ne_of_gt g2.pos)
  cases e
  simp only [runF, startG, sSeq, sSet, sIf, sRet, sSkip, sAsg, fTest, fTru, f2, f1, fVar, fC, fCons, fNil, fTup, fLst, fFn, fCall, fAnd, fOr, fNot, fAndT, fOrT, fNotT, immV, allV, asB, truD, negD, List.map_cons, List.map_nil, List.getElem?_cons_zero, List.getElem?_cons_succ, Option.join_some, Option.bind_some, Option.map_some, List.set_cons_zero, List.set_cons_succ, List.length_cons, List.length_nil, List.cons_append, List.nil_append, List.replicate, Nat.add_sub_cancel, Nat.zero_add, Nat.reduceAdd, Nat.reduceSub, if_true, if_false, Bool.false_eq_true, Bool.not_true, Bool.not_false, decide_true, decide_false, reduceIte, reduceCtorEq, Nat.reduceEqDiff, Nat.reduceLeDiff, sOwn, sWhile, whileF, sApp, fSz, gd, ixD, fL, fComp, itemsD, compL, aName, setR, capR, List.foldl_cons, List.foldl_nil, Option.map_none, Option.bind_none, List.isEmpty, List.reverse_cons, List.reverse_nil, and_self, and_true, true_and, Option.some.injEq, aTup, aCons, aNil, setG, List.append_nil, fr, atI2_0, atI2_1, addD_int, subD_int, ltD_int, mulM g1.mp g2.mq, mulM g2.mp g1.mq, mulM g1.mq g2.mq, mulM g1.mp g2.mp, mulM g1.mq g2.mp, make_ok z (g1.mq.mul g2.mq)]
theorem d_times (T : TX mg) (Dmake : Dn P w K mg base 2 "make" ["n", "d"] 2 F_make) (U : Fun K "times" "times" (top 5) f fd) (hm : mg "times" = some (.ref f)) (hB : Binds K fd ["a", "b"] []) : Dn P w K mg base 3 "times" ["a", "b"] 2 F_times := by
  have nd : (["a", "b"] : List Str).Nodup := by decide +kernel
  refine dn_of U hm hB (N := ["a", "b"]) ⟨rfl, rfl, rfl, by decide +kernel, rfl, by decide +kernel, by decide +kernel⟩ rfl (fun cdv A outer s H E hr =>
    (psf_one (psf_ret (pf_fn Dmake hr (pfa_cons (pf_mul (pf_ix (pf_var 0) pf_int) (pf_ix (pf_var 1) pf_int)) (pfa_cons (pf_mul (pf_ix (pf_var 0) pf_int) (pf_ix (pf_var 1) pf_int)) pfa_nil)))))) ?_
  intro ds d hl hF
  obtain ⟨p, q, r, s, rfl, g1, g2, e⟩ := two_inv hF
  have z := Int.mul_ne_zero (Int.ne_of_gt g1.pos) (Int.ne_of_gt g2.pos)
  cases e
  simp only [runF, startG, sSeq, sSet, sIf, sRet, sSkip, sAsg, fTest, fTru, f2, f1, fVar, fC, fCons, fNil, fTup, fLst, fFn, fCall, fAnd, fOr, fNot, fAndT, fOrT, fNotT, immV, allV, asB, truD, negD, List.map_cons, List.map_nil, List.getElem?_cons_zero, List.getElem?_cons_succ, Option.join_some, Option.bind_some, Option.map_some, List.set_cons_zero, List.set_cons_succ, List.length_cons, List.length_nil, List.cons_append, List.nil_append, List.replicate, Nat.add_sub_cancel, Nat.zero_add, Nat.reduceAdd, Nat.reduceSub, if_true, if_false, Bool.false_eq_true, Bool.not_true, Bool.not_false, decide_true, decide_false, reduceIte, reduceCtorEq, Nat.reduceEqDiff, Nat.reduceLeDiff, sOwn, sWhile, whileF, sApp, fSz, gd, ixD, fL, fComp, itemsD, compL, aName, setR, capR, List.foldl_cons, List.foldl_nil, Option.map_none, Option.bind_none, List.isEmpty, List.reverse_cons, List.reverse_nil, and_self, and_true, true_and, Option.some.injEq, aTup, aCons, aNil, setG, List.append_nil, fr, atI2_0, atI2_1, addD_int, subD_int, ltD_int, mulM g1.mp g2.mq, mulM g2.mp g1.mq, mulM g1.mq g2.mq, mulM g1.mp g2.mp, mulM g1.mq g2.mp, make_ok z (g1.mq.mul g2.mq)]
theorem d_below (T : TX mg) (Dmake : Dn P w K mg base 2 "make" ["n", "d"] 2 F_make) (U : Fun K "below" "below" (top 6) f fd) (hm : mg "below" = some (.ref f)) (hB : Binds K fd ["a", "b"] []) : Dn P w K mg base 3 "below" ["a", "b"] 2 F_below := by
  have nd : (["a", "b"] : List Str).Nodup := by decide +kernel
  refine dn_of U hm hB (N := ["a", "b"]) ⟨rfl, rfl, rfl, by decide +kernel, rfl, by decide +kernel, by decide +kernel⟩ rfl (fun cdv A outer s H E hr =>
    (psf_one (psf_ret (pf_lt (pf_mul (pf_ix (pf_var 0) pf_int) (pf_ix (pf_var 1) pf_int)) (pf_mul (pf_ix (pf_var 1) pf_int) (pf_ix (pf_var 0) pf_int)))))) ?_
  intro ds d hl hF
  obtain ⟨p, q, r, s, rfl, g1, g2, e⟩ := two_inv hF
  have z := Int.mul_ne_zero (Int.ne_of_gt g1.pos) (Int.ne_of_gt g2.pos)
  cases e
  simp only [runF, startG, sSeq, sSet, sIf, sRet, sSkip, sAsg, fTest, fTru, f2, f1, fVar, fC, fCons, fNil, fTup, fLst, fFn, fCall, fAnd, fOr, fNot, fAndT, fOrT, fNotT, immV, allV, asB, truD, negD, List.map_cons, List.map_nil, List.getElem?_cons_zero, List.getElem?_cons_succ, Option.join_some, Option.bind_some, Option.map_some, List.set_cons_zero, List.set_cons_succ, List.length_cons, List.length_nil, List.cons_append, List.nil_append, List.replicate, Nat.add_sub_cancel, Nat.zero_add, Nat.reduceAdd, Nat.reduceSub, if_true, if_false, Bool.false_eq_true, Bool.not_true, Bool.not_false, decide_true, decide_false, reduceIte, reduceCtorEq, Nat.reduceEqDiff, Nat.reduceLeDiff, sOwn, sWhile, whileF, sApp, fSz, gd, ixD, fL, fComp, itemsD, compL, aName, setR, capR, List.foldl_cons, List.foldl_nil, Option.map_none, Option.bind_none, List.isEmpty, List.reverse_cons, List.reverse_nil, and_self, and_true, true_and, Option.some.injEq, aTup, aCons, aNil, setG, List.append_nil, fr, atI2_0, atI2_1, addD_int, subD_int, ltD_int, mulM g1.mp g2.mq, mulM g2.mp g1.mq, mulM g1.mq g2.mq, mulM g1.mp g2.mp, mulM g1.mq g2.mp]
end
end
section
noncomputable section
variable {P : Program} {w : World} {K : Fg} {mg : Str → Option Value} {base : Heap} {f : Addr} {fd : FuncData}
abbrev R := Int × Int
abbrev rD (r : R) : List Dat := [.int r.1, .int r.2]
def Rok (r : R) : Prop := 0 ≤ r.2 ∧ r.2 < 2147483648
instance (r : R) : Decidable (Rok r) := inferInstanceAs (Decidable (_ ∧ _))
def st1 (b : Int) : Int := (b * 48271 + 11).fmod 2147483647
def st2 (b : Int) : Int := (st1 b * st1 b).fmod 2147483629
def tk (r : R) (m : Int) : Int := if 10 ^ 18 ≤ r.1 then r.1.fmod m else (((st2 r.2 * 69621).fmod 2147483587).fdiv 8).fmod m
def tr (r : R) (m : Int) : R := if 10 ^ 18 ≤ r.1 then (r.1.fdiv m, r.2) else (r.1, st1 r.2)
theorem tk_bd (r : R) {m : Int} (h : 0 < m) : 0 ≤ tk r m ∧ tk r m < m := by
  unfold tk
  split
  · exact fmod_bd _ h
  · exact fmod_bd _ h
theorem st1_bd (b : Int) : 0 ≤ st1 b ∧ st1 b < 2147483647 := fmod_bd _ (by decide)
theorem st2_bd (b : Int) : 0 ≤ st2 b ∧ st2 b < 2147483629 := fmod_bd _ (by decide)
theorem tr_ok {r : R} {m : Int} (h : Rok r) : Rok (tr r m) := by
  unfold tr
  split
  · exact h
  · have := st1_bd r.2
    exact ⟨this.1, by show st1 r.2 < _; omega⟩
def F_take : List Dat → List Dat → Option (Dat × List Dat)
  | [.int a, .int b], [.int m] => if Rok (a, b) ∧ 0 < m ∧ m < 2 ^ 200 then some (.int (tk (a, b) m), rD (tr (a, b) m)) else none
  | _, _ => none
theorem F_take_ok {r : R} {m : Int} (h : Rok r) (h1 : 0 < m) (h2 : m < 2 ^ 200) : F_take [.int r.1, .int r.2] [.int m] = some (.int (tk r m), [.int (tr r m).1, .int (tr r m).2]) := if_pos ⟨h, h1, h2⟩
theorem log200 {m : Int} (h1 : 0 < m) (h2 : m < 2 ^ 200) : m.natAbs.log2 < 9000 := Nat.lt_trans (log2_small (k := 200) (by decide) (by omega)) (by decide)
theorem d_reel (T : TX mg) (U : Fun K "_law_reel" "_law_reel" (top 17) f fd) (hm : mg "_law_reel" = some (.ref f)) (hB : Binds K fd ["cell"] []) :
    DnN P w K mg base 1 "_law_reel" ["cell"] 1 (fun ds => match ds with | [.int c] => some (rD ((c.natAbs : Int), ((c.fmod 2147483647 + 1) * 742938285).fmod 2147483647)) | _ => none) := by
  have nd : (["cell"] : List Str).Nodup := by decide +kernel
  refine dnN_of U hm hB (N := ["cell"]) ⟨rfl, rfl, rfl, by decide +kernel, rfl, by decide +kernel, by decide +kernel⟩ rfl rfl (fun cdv A outer s H E hr =>
    pfl_lst (pfa_cons (pf_abs T.abs (pfa_cons (pf_var 0) pfa_nil)) (pfa_cons (pf_mod (pf_mul (pf_add (pf_mod (pf_var 0) pf_int) pf_int) pf_int) pf_int) pfa_nil))) ?_
  intro ds out hl hF
  split at hF
  · rename_i c
    cases hF
    have e1 := modD_int (a := c) (b := 2147483647) (by decide)
    have e2 := mulR (c.fmod 2147483647 + 1) (b := 742938285) (by decide) (by decide)
    have e3 := modD_int (a := (c.fmod 2147483647 + 1) * 742938285) (b := 2147483647) (by decide)
    have z2 : 2 ≤ sizeLine := sz (by decide)
    simp! [absD_int, e1, e2, e3, addD_int, z2]
  · cases hF
theorem d_take (T : TX mg) (U : Fun K "_law_take" "_law_take" (top 18) f fd) (hm : mg "_law_take" = some (.ref f)) (hB : Binds K fd ["reel", "many"] []) : DnM P w K mg base 1 "_law_take" ["reel", "many"] 2 F_take := by
  have nd : (["reel", "many", "found", "stir"] : List Str).Nodup := by decide +kernel
  refine dnM_of U hm hB (N := ["reel", "many", "found", "stir"]) ⟨rfl, rfl, rfl, by decide +kernel, rfl, by decide +kernel, by decide +kernel⟩ rfl (fun cdv A outer s H E hr =>
    (psf_cons (psf_if (pft_ge (pf_ix (pf_var 0) pf_int) (pf_pow pf_int pf_int)) (psf_cons (psf_set 2 nd (pf_mod (pf_ix (pf_var 0) pf_int) (pf_var 1)))
    (psf_cons (psf_setIx 0 (ph_pure (pf_fdiv (pf_ix (pf_var 0) pf_int) (pf_var 1))))
    (psf_one (psf_retM (ph_pure (pf_var 2)))))) psf_nil)
    (psf_cons (psf_setIx 0 (ph_pure (pf_mod (pf_add (pf_mul (pf_ix (pf_var 0) pf_int) pf_int) pf_int) pf_int)))
    (psf_cons (psf_set 3 nd (pf_mod (pf_mul (pf_ix (pf_var 0) pf_int) (pf_ix (pf_var 0) pf_int)) pf_int))
    (psf_one (psf_retM (ph_pure (pf_mod (pf_fdiv (pf_mod (pf_mul (pf_var 3) pf_int) pf_int) pf_int) (pf_var 1))))))))) ?_
  intro ds es d ds' hl hF
  unfold F_take at hF
  split at hF
  · rename_i a b m
    split at hF
    · rename_i h
      obtain ⟨hR, h1, h2⟩ := h
      have hm0 : m ≠ 0 := by omega
      have i0 : ∀ x y : Dat, atI [x, y] 0 = some x := fun _ _ => rfl
      have i1 : ∀ x y : Dat, atI [x, y] 1 = some y := fun _ _ => rfl
      have n0 : ixN 2 0 = some 0 := rfl
      have n1 : ixN 2 1 = some 1 := rfl
      by_cases h18 : (10 : Int) ^ 18 ≤ a
      · have t1 : tk (a, b) m = a.fmod m := by unfold tk; exact if_pos h18
        have t2 : tr (a, b) m = (a.fdiv m, b) := by unfold tr; exact if_pos h18
        rw [t1, t2] at hF
        cases hF
        have e1 := modD_int (a := a) (b := m) hm0
        have e2 := fdivD_int (a := a) (b := m) hm0 (log200 h1 h2)
        simp! [i0, i1, pow18, geD_int, e1, e2, eq_true h18, n0, n1]
      · have t1 : tk (a, b) m = (((st2 b * 69621).fmod 2147483587).fdiv 8).fmod m := by unfold tk; exact if_neg h18
        have t2 : tr (a, b) m = (a, st1 b) := by unfold tr; exact if_neg h18
        rw [t1, t2] at hF
        cases hF
        have b1 := st1_bd b
        have b2 := st2_bd b
        have e1 := mulR b (b := 48271) (by decide) (by decide)
        have e2 : modD (.int (b * 48271 + 11)) (.int 2147483647) = some (.int (st1 b)) := modD_int (by decide)
        have e3 : mulD (.int (st1 b)) (.int (st1 b)) = some (.int (st1 b * st1 b)) := mulR _ (by omega) (by omega)
        have e4 : modD (.int (st1 b * st1 b)) (.int 2147483629) = some (.int (st2 b)) := modD_int (by decide)
        have e5 := mulR (st2 b) (b := 69621) (by decide) (by decide)
        have e6 := modD_int (a := st2 b * 69621) (b := 2147483587) (by decide)
        have e7 := fdivD_int (a := (st2 b * 69621).fmod 2147483587) (b := 8) (by decide) (by decide)
        have e8 := modD_int (a := ((st2 b * 69621).fmod 2147483587).fdiv 8) (b := m) hm0
        simp! [i0, i1, pow18, geD_int, addD_int, e1, e2, e3, e4, e5, e6, e7, e8, eq_false h18, n0, n1]
    · cases hF
  · cases hF
def F_lmake : List Dat → Option Dat
  | [.int n, .int d] => if 0 < d ∧ d.natAbs < 2 ^ 8000 then some (mk n d) else none
  | _ => none
theorem lmake_ok {n d : Int} (h : 0 < d) (hb : d.natAbs < 2 ^ 8000) : F_lmake [.int n, .int d] = some (mk n d) := if_pos ⟨h, hb⟩
def fuelL : Gam → Nat
  | _ :: some (.imm (.int d)) :: _ => d.natAbs + 1
  | _ => 0
abbrev lmT : Rho → Option Bool := fTest (f2 neD (fVar 3) (fC (Dat.int 0)))
abbrev lmB : Gam → Option Fl := sPar 2 3 (fCons (fVar 3) (fCons (f2 modD (fVar 2) (fVar 3)) fNil))
theorem lm_loop (x y : Option Slot) : ∀ (n : Nat) (a b : Int), 0 ≤ a → 0 ≤ b → b.natAbs < n → whileF lmT lmB n [x, y, some (.imm (.int a)), some (.imm (.int b))] = some (.nx [x, y, some (.imm (.int (Int.gcd a b))), some (.imm (.int 0))])
  | 0, a, b, _, _, h => by omega
  | n + 1, a, b, ha, hb, h => by
    have eT : ∀ b : Int, lmT (allV [x, y, some (.imm (.int a)), some (.imm (.int b))]) = some (!decide (b = 0)) := fun b => by
      show (neD (.int b) (.int 0)).bind asB = _
      rw [neD_int]; rfl
    by_cases e : b = 0
    · subst e
      rw [whileF_f (by rw [eT]; rfl)]
      have : ((Int.gcd a 0 : Nat) : Int) = a := by rw [Int.gcd_zero_right]; omega
      rw [this]
    · have hp : 0 < b := by omega
      have bd := fmod_bd a hp
      have e1 : lmB [x, y, some (.imm (.int a)), some (.imm (.int b))] = some (.nx [x, y, some (.imm (.int b)), some (.imm (.int (a.fmod b)))]) := by
        have em := modD_int (a := a) (b := b) e
        simp! [sPar, em]
      rw [whileF_t (by rw [eT, decide_eq_false e]; rfl) e1, lm_loop x y n b (a.fmod b) hb bd.1 (by omega), Fr.gcd_fmod a b hp]
theorem d_lmake (T : TX mg) (U : Fun K "_law_make" "_law_make" (top 19) f fd) (hm : mg "_law_make" = some (.ref f)) (hB : Binds K fd ["n", "d"] []) : Dn P w K mg base 1 "_law_make" ["n", "d"] 2 F_lmake := by
  have nd : (["n", "d", "one", "other"] : List Str).Nodup := by decide +kernel
  refine dn_of U hm hB (N := ["n", "d", "one", "other"]) ⟨rfl, rfl, rfl, by decide +kernel, rfl, by decide +kernel, by decide +kernel⟩ rfl (fun cdv A outer s H E hr =>
    (psf_cons (psf_set 2 nd (pf_abs T.abs (pfa_cons (pf_var 0) pfa_nil)))
    (psf_cons (psf_set 3 nd (pf_var 1))
    (psf_cons (psf_while fuelL PassesOwn.never (pft_ne hr (pf_var 3) pf_int) (psf_one (psf_par 2 3 rfl nd (by decide) (pfa_cons (pf_var 3) (pfa_cons (pf_mod (pf_var 2) (pf_var 3)) pfa_nil)))))
    (psf_one (psf_ret (pf_tup (k := 0) (pfa_cons (pf_fdiv (pf_var 0) (pf_var 2)) (pfa_cons (pf_fdiv (pf_var 1) (pf_var 2)) pfa_nil))))))))) ?_
  intro ds r hl hF
  unfold F_lmake at hF
  split at hF
  · rename_i n d
    split at hF
    · rename_i h
      obtain ⟨h1, h2⟩ := h
      cases hF
      have g0 : Int.gcd (n.natAbs : Int) d = Int.gcd n d := by
        unfold Int.gcd
        rw [Int.natAbs_natCast]
      have hl := lm_loop (some (.imm (.int n))) (some (.imm (.int d))) (d.natAbs + 1) n.natAbs d (by omega) (by omega) (by omega)
      rw [g0] at hl
      have hw : sWhile fuelL lmT lmB [some (.imm (.int n)), some (.imm (.int d)), some (.imm (.int n.natAbs)), some (.imm (.int d))] = _ := hl
      have gp := Fr.gcd_pos (n := n) (d := d) (by omega)
      have gl : Int.gcd n d ≤ d.natAbs := Nat.le_of_dvd (by omega) (Int.ofNat_dvd_left.mp (Int.gcd_dvd_right n d))
      have lg : (Int.gcd n d : Int).natAbs.log2 < 9000 := Nat.lt_trans (log2_small (k := 8000) (by decide) (by rw [Int.natAbs_natCast]; exact Nat.lt_of_le_of_lt gl h2)) (by decide)
      have e1 := fdivD_int (a := n) (b := (Int.gcd n d : Int)) (by omega) lg
      have e2 := fdivD_int (a := d) (b := (Int.gcd n d : Int)) (by omega) lg
      have en : n.fdiv (Int.gcd n d : Int) = Fr.num n d := by unfold Fr.num Fr.dv; rw [if_neg (by omega)]
      have ed : d.fdiv (Int.gcd n d : Int) = Fr.den n d := by unfold Fr.den Fr.dv; rw [if_neg (by omega)]
      rw [en] at e1
      rw [ed] at e2
      have z2 : 2 ≤ sizeLine := sz (by decide)
      refine runF_rt ?_
      simp!
      rw [sSeq_nx (Γ' := [some (.imm (.int n)), some (.imm (.int d)), some (.imm (.int n.natAbs)), none]) (by simp! [absD_int])]
      rw [sSeq_nx (Γ' := [some (.imm (.int n)), some (.imm (.int d)), some (.imm (.int n.natAbs)), some (.imm (.int d))]) (by simp! [if_true])]
      rw [sSeq_nx (Γ' := [some (.imm (.int n)), some (.imm (.int d)), some (.imm (.int (Int.gcd n d))), some (.imm (.int 0))]) hw]
      simp! [e1, e2, z2]
    · cases hF
  · cases hF
abbrev F_lplus := F_two fun p q r s => some (mk (p * s + r * q) (q * s))
theorem d_lplus (T : TX mg) (Dl_make : Dn P w K mg base 1 "_law_make" ["n", "d"] 2 F_lmake) (U : Fun K "_law_plus" "_law_plus" (top 20) f fd) (hm : mg "_law_plus" = some (.ref f)) (hB : Binds K fd ["a", "b"] []) : Dn P w K mg base 2 "_law_plus" ["a", "b"] 2 F_lplus := by
  have nd : (["a", "b"] : List Str).Nodup := by decide +kernel
  refine dn_of U hm hB (N := ["a", "b"]) ⟨rfl, rfl, rfl, by decide +kernel, rfl, by decide +kernel, by decide +kernel⟩ rfl (fun cdv A outer s H E hr =>
    (psf_one (psf_ret (pf_fn Dl_make hr (pfa_cons (pf_add (pf_mul (pf_ix (pf_var 0) pf_int) (pf_ix (pf_var 1) pf_int)) (pf_mul (pf_ix (pf_var 1) pf_int) (pf_ix (pf_var 0) pf_int))) (pfa_cons (pf_mul (pf_ix (pf_var 0) pf_int) (pf_ix (pf_var 1) pf_int)) pfa_nil)))))) ?_
  intro ds d hl hF
  obtain ⟨p, q, r, s, rfl, g1, g2, e⟩ := two_inv hF
  have z := Int.mul_pos g1.pos g2.pos
  cases e
  simp! [atI2_0, atI2_1, mulM g1.mp g2.mq, mulM g2.mp g1.mq, mulM g1.mq g2.mq, addD_int, lmake_ok z (g1.mq.mul g2.mq)]
abbrev frD (x : Int × Int) : Dat := fr x.1 x.2
structure Sm (x : Int × Int) : Prop where
  pos : 0 < x.2
  cop : Int.gcd x.1 x.2 = 1
  ln : x.1.natAbs < 2 ^ 100
  ld : x.2.natAbs < 2 ^ 100
def frac (r : R) (g : Bool) : (Int × Int) × R :=
  if tk r 8 < 4 then ((tk (tr r 8) 7 - 3, 1), tr (tr r 8) 7)
  else if tk r 8 = 4 then ((0, 1), tr r 8)
  else if tk r 8 = 7 ∧ g = true then
    ((Fr.num (tk (tr r 8) (10 ^ 30) * (if tk (tr (tr r 8) (10 ^ 30)) 2 = 0 then 1 else -1)) (1 + tk (tr (tr (tr r 8) (10 ^ 30)) 2) (10 ^ 29)), Fr.den (tk (tr r 8) (10 ^ 30) * (if tk (tr (tr r 8) (10 ^ 30)) 2 = 0 then 1 else -1)) (1 + tk (tr (tr (tr r 8) (10 ^ 30)) 2) (10 ^ 29))), tr (tr (tr (tr r 8) (10 ^ 30)) 2) (10 ^ 29))
  else ((Fr.num (tk (tr r 8) 41 - 20) (1 + tk (tr (tr r 8) 41) 12), Fr.den (tk (tr r 8) 41 - 20) (1 + tk (tr (tr r 8) 41) 12)), tr (tr (tr r 8) 41) 12)
theorem sm_made {n d : Int} (h : 0 < d) (hn : n.natAbs < 2 ^ 100) (hd : d.natAbs < 2 ^ 100) : Sm (Fr.num n d, Fr.den n d) :=
  ⟨Fr.den_pos (by omega), Fr.cop (by omega), Nat.lt_of_le_of_lt (Fr.abs_le_num (by omega)) hn, Nat.lt_of_le_of_lt (Fr.abs_le_den (by omega)) hd⟩
theorem frac_ok {r : R} {g : Bool} (h : Rok r) : Sm (frac r g).1 ∧ Rok (frac r g).2 := by
  have o1 := tr_ok (m := 8) h
  unfold frac
  split
  · have b := tk_bd (tr r 8) (m := 7) (by decide)
    exact ⟨⟨show (0 : Int) < 1 by decide, Int.gcd_one_right _, by show (tk (tr r 8) 7 - 3).natAbs < _; omega, show (1 : Int).natAbs < 2 ^ 100 by decide⟩, tr_ok o1⟩
  · split
    · exact ⟨⟨show (0 : Int) < 1 by decide, show Int.gcd 0 1 = 1 by decide, show (0 : Int).natAbs < 2 ^ 100 by decide, show (1 : Int).natAbs < 2 ^ 100 by decide⟩, o1⟩
    · split
      · have b1 := tk_bd (tr r 8) (m := 10 ^ 30) (by decide)
        have b2 := tk_bd (tr (tr (tr r 8) (10 ^ 30)) 2) (m := 10 ^ 29) (by decide)
        refine ⟨sm_made (by omega) ?_ (by omega), tr_ok (tr_ok (tr_ok o1))⟩
        split
        · rw [Int.mul_one]; omega
        · rw [Int.mul_neg, Int.mul_one, Int.natAbs_neg]; omega
      · have b1 := tk_bd (tr r 8) (m := 41) (by decide)
        have b2 := tk_bd (tr (tr r 8) 41) (m := 12) (by decide)
        exact ⟨sm_made (by omega) (by omega) (by omega), tr_ok (tr_ok o1)⟩
def F_frac : List Dat → List Dat → Option (Dat × List Dat)
  | [.int a, .int b], [.bool g] => if Rok (a, b) then some (frD (frac (a, b) g).1, rD (frac (a, b) g).2) else none
  | _, _ => none
theorem F_frac_ok {r : R} {g : Bool} (h : Rok r) : F_frac [.int r.1, .int r.2] [.bool g] = some (frD (frac r g).1, rD (frac r g).2) := if_pos h
theorem pow29 : powD (.int 10) (.int 29) = some (.int (10 ^ 29)) := iD_ok (by unfold CPow; decide)
theorem d_frac (T : TX mg) (Dl_take : DnM P w K mg base 1 "_law_take" ["reel", "many"] 2 F_take) (Dl_make : Dn P w K mg base 1 "_law_make" ["n", "d"] 2 F_lmake) (U : Fun K "_law_fraction" "_law_fraction" (top 23) f fd) (hm : mg "_law_fraction" = some (.ref f)) (hB : Binds K fd ["reel", "great"] []) : DnM P w K mg base 2 "_law_fraction" ["reel", "great"] 2 F_frac := by
  have nd : (["reel", "great", "way", "number"] : List Str).Nodup := by decide +kernel
  refine dnM_of U hm hB (N := ["reel", "great", "way", "number"]) ⟨rfl, rfl, rfl, by decide +kernel, rfl, by decide +kernel, by decide +kernel⟩ rfl (fun cdv A outer s H E hr =>
    (psf_cons (psf_setH 2 nd (ph_mut 0 Dl_take hr (pha_cons (ph_pure pf_int) pha_nil)))
    (psf_cons (psf_if (pft_lt (pf_var 2) pf_int) (psf_one (psf_retM (ph_tup (pha_cons (ph_sub (ph_mut 0 Dl_take hr (pha_cons (ph_pure pf_int) pha_nil)) (ph_pure pf_int)) (pha_cons (ph_pure pf_int) pha_nil))))) psf_nil)
    (psf_cons (psf_if (pft_eq hr (pf_var 2) pf_int) (psf_one (psf_retM (ph_pure (pf_tup (k := 0) (pfa_cons pf_int (pfa_cons pf_int pfa_nil)))))) psf_nil)
    (psf_cons (psf_if (pft_w (pfw_and (pft_eq hr (pf_var 2) pf_int) (pfw_and1 (pft_truth (pf_var 1))))) (psf_cons (psf_setH 3 nd (ph_mul (ph_mut 0 Dl_take hr (pha_cons (ph_pure (pf_pow pf_int pf_int)) pha_nil)) (ph_ix (ph_pure (pf_lst (pfa_cons pf_int (pfa_cons (pf_neg pf_int) pfa_nil)))) (ph_mut 0 Dl_take hr (pha_cons (ph_pure pf_int) pha_nil)))))
    (psf_one (psf_retM (ph_fn Dl_make hr (pha_cons (ph_pure (pf_var 3)) (pha_cons (ph_add (ph_pure pf_int) (ph_mut 0 Dl_take hr (pha_cons (ph_pure (pf_pow pf_int pf_int)) pha_nil))) pha_nil)))))) psf_nil)
    (psf_one (psf_retM (ph_fn Dl_make hr (pha_cons (ph_sub (ph_mut 0 Dl_take hr (pha_cons (ph_pure pf_int) pha_nil)) (ph_pure pf_int)) (pha_cons (ph_add (ph_pure pf_int) (ph_mut 0 Dl_take hr (pha_cons (ph_pure pf_int) pha_nil))) pha_nil)))))))))) ?_
  intro ds es d ds' hl hF
  unfold F_frac at hF
  split at hF
  · rename_i a b g
    split at hF
    · rename_i hR
      have o1 := tr_ok (m := 8) hR
      have f8 := F_take_ok (m := 8) hR (by decide) (by decide)
      have z2 : 2 ≤ sizeLine := sz (by decide)
      by_cases c4 : tk (a, b) 8 < 4
      · have ef : frac (a, b) g = ((tk (tr (a, b) 8) 7 - 3, 1), tr (tr (a, b) 8) 7) := by unfold frac; rw [if_pos c4]
        rw [ef] at hF
        cases hF
        have f7 := F_take_ok (m := 7) o1 (by decide) (by decide)
        simp! [f8, f7, ltD_int, subD_int, eq_true c4, z2]
      · by_cases e4 : tk (a, b) 8 = 4
        · have ef : frac (a, b) g = ((0, 1), tr (a, b) 8) := by unfold frac; rw [if_neg c4, if_pos e4]
          rw [ef] at hF
          cases hF
          simp! [f8, ltD_int, eqD_int, eq_false c4, eq_true e4, z2]
        · by_cases e7 : tk (a, b) 8 = 7 ∧ g = true
          · have ef := (show frac (a, b) g = _ by unfold frac; rw [if_neg c4, if_neg e4, if_pos e7])
            rw [ef] at hF
            cases hF
            obtain ⟨e7, eg⟩ := e7
            subst eg
            have o2 := tr_ok (m := 10 ^ 30) o1
            have o3 := tr_ok (m := 2) o2
            have f30 := F_take_ok (m := 10 ^ 30) o1 (by decide) (by decide)
            have f2' := F_take_ok (m := 2) o2 (by decide) (by decide)
            have f29 := F_take_ok (m := 10 ^ 29) o3 (by decide) (by decide)
            have b2 := tk_bd (tr (tr (a, b) 8) (10 ^ 30)) (m := 2) (by decide)
            have b29 := tk_bd (tr (tr (tr (a, b) 8) (10 ^ 30)) 2) (m := 10 ^ 29) (by decide)
            have ix : atI [Dat.int 1, Dat.int (-1)] (tk (tr (tr (a, b) 8) (10 ^ 30)) 2) = some (.int (if tk (tr (tr (a, b) 8) (10 ^ 30)) 2 = 0 then 1 else -1)) := by
              rcases (show tk (tr (tr (a, b) 8) (10 ^ 30)) 2 = 0 ∨ tk (tr (tr (a, b) 8) (10 ^ 30)) 2 = 1 by omega) with h | h
              · rw [h]; rfl
              · rw [h]; rfl
            have em : mulD (.int (tk (tr (a, b) 8) (10 ^ 30))) (.int (if tk (tr (tr (a, b) 8) (10 ^ 30)) 2 = 0 then 1 else -1)) = some (.int (tk (tr (a, b) 8) (10 ^ 30) * (if tk (tr (tr (a, b) 8) (10 ^ 30)) 2 = 0 then 1 else -1))) := mulR _ (by split <;> decide) (by split <;> decide)
            generalize hs : (if tk (tr (tr (a, b) 8) (10 ^ 30)) 2 = 0 then (1 : Int) else -1) = sg at ix em ⊢
            have mk1 := lmake_ok (n := tk (tr (a, b) 8) (10 ^ 30) * sg) (d := 1 + tk (tr (tr (tr (a, b) 8) (10 ^ 30)) 2) (10 ^ 29)) (by omega) (Nat.lt_of_lt_of_le (show _ < 2 ^ 100 by omega) (Nat.pow_le_pow_right (by decide) (by decide)))
            simp! [f8, f30, f2', f29, pow30, pow29, ltD_int, eqD_int, addD_int, ix, em, mk1, eq_false c4, eq_false e4, eq_true e7, z2]
          · have ef := (show frac (a, b) g = _ by unfold frac; rw [if_neg c4, if_neg e4, if_neg e7])
            rw [ef] at hF
            cases hF
            have o2 := tr_ok (m := 41) o1
            have f41 := F_take_ok (m := 41) o1 (by decide) (by decide)
            have f12 := F_take_ok (m := 12) o2 (by decide) (by decide)
            have b12 := tk_bd (tr (tr (a, b) 8) 41) (m := 12) (by decide)
            have mk1 := lmake_ok (n := tk (tr (a, b) 8) 41 - 20) (d := 1 + tk (tr (tr (a, b) 8) 41) 12) (by omega) (Nat.lt_of_lt_of_le (show _ < 2 ^ 100 by omega) (Nat.pow_le_pow_right (by decide) (by decide)))
            by_cases e7a : tk (a, b) 8 = 7
            · have eg : g = false := by cases g with | false => rfl | true => exact absurd ⟨e7a, rfl⟩ e7
              subst eg
              simp! [f8, f41, f12, ltD_int, eqD_int, addD_int, subD_int, mk1, eq_false c4, eq_false e4, eq_true e7a, z2]
            · simp! [f8, f41, f12, ltD_int, eqD_int, addD_int, subD_int, mk1, eq_false c4, eq_false e4, eq_false e7a, z2]
    · cases hF
  · cases hF
def frsD (xs : List (Int × Int)) : Dat := .tuple (xs.map frD)
abbrev lineD (kind : Str) (xs : List (Int × Int)) (b : Int × Int) : Dat := .tuple [.str kind, frsD xs, frD b]
def Kd (k : Str) : Prop := k = "=" ∨ k = "<" ∨ k = "<="
def drF : Nat → R → Bool → List (Int × Int) × R
  | 0, r, _ => ([], r)
  | n + 1, r, g => ((frac r g).1 :: (drF n (frac r g).2 g).1, (drF n (frac r g).2 g).2)
theorem drF_ok : ∀ (n : Nat) {r : R} {g : Bool}, Rok r → (∀ x ∈ (drF n r g).1, Sm x) ∧ Rok (drF n r g).2 ∧ (drF n r g).1.length = n
  | 0, r, g, h => ⟨fun x hx => by simp [drF] at hx, h, rfl⟩
  | n + 1, r, g, h => by
    obtain ⟨h1, h2⟩ := frac_ok (g := g) h
    obtain ⟨i1, i2, i3⟩ := drF_ok n (g := g) h2
    refine ⟨fun x hx => ?_, i2, by show (drF n (frac r g).2 g).1.length + 1 = _; rw [i3]⟩
    rcases List.mem_cons.mp (show x ∈ (frac r g).1 :: (drF n (frac r g).2 g).1 from hx) with e | h
    · rw [e]; exact h1
    · exact i1 x h
theorem comp_draw {gt : Dat → Option Asg} {fe : HF} {tl : Gam} {g : Bool} (hgt : ∀ d, ∃ as, gt d = some as ∧ ∀ r : R, Rok r → ∃ tl', fe (setG (some (.own (rD r)) :: tl) as) = some (frD (frac r g).1, some (.own (rD (frac r g).2)) :: tl')) :
    ∀ (its : List Dat) (r : R), Rok r → compH gt fe tl its (rD r) = some ((drF its.length r g).1.map frD, rD (drF its.length r g).2)
  | [], r, _ => rfl
  | d :: its, r, h => by
    obtain ⟨as, e1, e2⟩ := hgt d
    obtain ⟨tl', e3⟩ := e2 r h
    have ih := comp_draw hgt its (frac r g).2 (frac_ok h).2
    show (gt d).bind _ = _
    rw [e1]
    show (fe (setG (some (.own (rD r)) :: tl) as)).bind _ = _
    rw [e3]
    show ((compH gt fe tl its (rD (frac r g).2)).map _) = _
    rw [ih]
    rfl
def kdL : List Str := ["<=", "<", "<=", "=", "<"]
def kdAt (i : Int) : Str := kdL.getD i.toNat "<"
theorem kd_ok {i : Int} (h : 0 ≤ i ∧ i < 5) : atI [Dat.str "<=", Dat.str "<", Dat.str "<=", Dat.str "=", Dat.str "<"] i = some (.str (kdAt i)) ∧ Kd (kdAt i) := by
  rcases (show i = 0 ∨ i = 1 ∨ i = 2 ∨ i = 3 ∨ i = 4 by omega) with e | e | e | e | e
  · rw [e]; exact ⟨rfl, .inr (.inr rfl)⟩
  · rw [e]; exact ⟨rfl, .inr (.inl rfl)⟩
  · rw [e]; exact ⟨rfl, .inr (.inr rfl)⟩
  · rw [e]; exact ⟨rfl, .inl rfl⟩
  · rw [e]; exact ⟨rfl, .inr (.inl rfl)⟩
abbrev lnP (r : R) (m : Int) (g : Bool) : List (Int × Int) × R := drF m.toNat (tr r 5) g
abbrev lnB (r : R) (m : Int) (g : Bool) : (Int × Int) × R := frac (lnP r m g).2 g
def F_line : List Dat → List Dat → Option (Dat × List Dat)
  | [.int a, .int b], [.int m, .bool g] => if Rok (a, b) ∧ 0 ≤ m ∧ m ≤ 9 then some (lineD (kdAt (tk (a, b) 5)) (lnP (a, b) m g).1 (lnB (a, b) m g).1, rD (lnB (a, b) m g).2) else none
  | _, _ => none
theorem F_line_ok {r : R} {m : Int} {g : Bool} (h : Rok r) (h1 : 0 ≤ m) (h2 : m ≤ 9) : F_line [.int r.1, .int r.2] [.int m, .bool g] = some (lineD (kdAt (tk r 5)) (lnP r m g).1 (lnB r m g).1, rD (lnB r m g).2) := if_pos ⟨h, h1, h2⟩
theorem rng_len (lo : Int) (n : Nat) : (rngD lo n).length = n := by unfold rngD; rw [List.length_map, List.length_range]
theorem d_line (T : TX mg) (Dl_take : DnM P w K mg base 2 "_law_take" ["reel", "many"] 2 F_take) (Dl_fraction : DnM P w K mg base 2 "_law_fraction" ["reel", "great"] 2 F_frac) (U : Fun K "_law_line" "_law_line" (top 24) f fd) (hm : mg "_law_line" = some (.ref f)) (hB : Binds K fd ["reel", "many", "great"] []) : DnM P w K mg base 3 "_law_line" ["reel", "many", "great"] 3 F_line := by
  have nd : (["reel", "many", "great", "kind", "parts"] : List Str).Nodup := by decide +kernel
  refine dnM_of U hm hB (N := ["reel", "many", "great", "kind", "parts"]) ⟨rfl, rfl, rfl, by decide +kernel, rfl, by decide +kernel, by decide +kernel⟩ rfl (fun cdv A outer s H E hr =>
    (psf_cons (psf_setH 3 nd (ph_ix (ph_pure (pf_lst (pfa_cons pf_str (pfa_cons pf_str (pfa_cons pf_str (pfa_cons pf_str (pfa_cons pf_str pfa_nil))))))) (ph_mut 0 Dl_take hr (pha_cons (ph_pure pf_int) pha_nil))))
    (psf_cons (psf_setH 4 nd (ph_tuple T.tuple (pha_cons (ph_of_l (phl_comp 0 rfl (blk_capR (tn := ["k"]) (fv := ["reel", "great"]) (js := [0, 2]) rfl (by decide +kernel) (by decide +kernel) rfl (by decide +kernel) (by decide +kernel) rfl
      (fun x hx => by ((have hx2 : x = "reel" ∨ x = "great" := (by simpa using hx)); (rcases hx2 with rfl | rfl <;> exact ⟨_, rfl⟩)))
      (fun p hp => by ((have hp2 : p = (("reel" : Str), (0 : Nat)) ∨ p = (("great" : Str), (2 : Nat)) := (by simpa using hp)); (rcases hp2 with rfl | rfl <;> exact ⟨rfl, .inr (.inl rfl), .inl rfl, fun z => by cases z⟩)))) (pif_range1 T.range (pfa_cons (pf_var 1) pfa_nil)) (fun _ _ _ _ => (pgf_name 2 (show (["reel", "great", "k"] : List Str).Nodup by decide +kernel))) (fun _ _ _ _ => (ph_mut 0 Dl_fraction hr (pha_cons (ph_pure (pf_var 1)) pha_nil))) (tg_name rfl))) pha_nil)))
    (psf_one (psf_retM (ph_tup (pha_cons (ph_pure (pf_var 3)) (pha_cons (ph_pure (pf_var 4)) (pha_cons (ph_mut 0 Dl_fraction hr (pha_cons (ph_pure (pf_var 2)) pha_nil)) pha_nil))))))))) ?_
  intro ds es d ds' hl hF
  unfold F_line at hF
  split at hF
  · rename_i a b m g
    split at hF
    · rename_i h
      obtain ⟨hR, h1, h2⟩ := h
      cases hF
      have o1 := tr_ok (m := 5) hR
      have f5 := F_take_ok (m := 5) hR (by decide) (by decide)
      have k5 := (kd_ok (tk_bd (a, b) (m := 5) (by decide))).1
      obtain ⟨p1, p2, p3⟩ := drF_ok m.toNat (g := g) o1
      have ff := F_frac_ok (g := g) p2
      have z5 : 5 ≤ sizeLine := sz (by decide)
      have z3 : 3 ≤ sizeLine := sz (by decide)
      have z10 : m.toNat < sizeLine := Nat.lt_of_lt_of_le (show m.toNat < 1000 by omega) (sz (by decide))
      have eR : rng1 [.int m] = some (rngD 0 m.toNat) := if_pos ⟨by omega, by omega⟩
      have ec := comp_draw (gt := aName 2) (fe := hMut 0 2 F_frac (hCons (hPure (fVar 1)) hNil)) (tl := [some (.imm (.bool g)), none]) (g := g) (fun d => ⟨[(2, d)], rfl, fun r hr => ⟨[some (.imm (.bool g)), some (.imm d)], by
        have e := F_frac_ok (g := g) hr
        simp! [e]⟩⟩) (rngD 0 m.toNat) (tr (a, b) 5) o1
      rw [rng_len] at ec
      simp! [f5, k5, z5, hComp, immS, eR, ec, z10, rng_len, p3, List.length_map, ff, z3]
      rfl
    · cases hF
  · cases hF
end
end
section
noncomputable section
variable {P : Program} {w : World} {K : Fg} {mg : Str → Option Value} {base : Heap} {f : Addr} {fd : FuncData}
structure TZ (K : Fg) (mg : Str → Option Value) (az : Addr) : Prop where
  mg : mg "ZERO" = some (.ref az)
  tup : ModT K az [.int 0, .int 1]
structure Sq (n : Nat) (x : Int × Int) : Prop where
  pos : 0 < x.2
  cop : Int.gcd x.1 x.2 = 1
  ln : x.1.natAbs < 2 ^ n
  ld : x.2.natAbs < 2 ^ n
theorem Sq.gd {n : Nat} {x : Int × Int} (h : Sq n x) (hn : n ≤ 4000) : Gd x.1 x.2 := ⟨h.pos, h.cop, ⟨Nat.lt_of_lt_of_le h.ln (Nat.pow_le_pow_right (by decide) hn)⟩, ⟨Nat.lt_of_lt_of_le h.ld (Nat.pow_le_pow_right (by decide) hn)⟩⟩
theorem Sq.up {n m : Nat} {x : Int × Int} (h : Sq n x) (hn : n ≤ m) : Sq m x := ⟨h.pos, h.cop, Nat.lt_of_lt_of_le h.ln (Nat.pow_le_pow_right (by decide) hn), Nat.lt_of_lt_of_le h.ld (Nat.pow_le_pow_right (by decide) hn)⟩
theorem mul_lt {a b n m : Nat} (ha : a < 2 ^ n) (hb : b < 2 ^ m) : a * b < 2 ^ (n + m) := by
  have h := Nat.mul_lt_mul'' ha hb
  rw [pw] at h
  exact h
def rd2 (n d : Int) : Int × Int := (Fr.num n d, Fr.den n d)
theorem sq_mk {n : Nat} {N D : Int} (h : D ≠ 0) (hn : N.natAbs < 2 ^ n) (hd : D.natAbs < 2 ^ n) : Sq n (rd2 N D) := ⟨Fr.den_pos h, Fr.cop h, Nat.lt_of_le_of_lt (Fr.abs_le_num h) hn, Nat.lt_of_le_of_lt (Fr.abs_le_den h) hd⟩
def pl (x y : Int × Int) : Int × Int := rd2 (x.1 * y.2 + y.1 * x.2) (x.2 * y.2)
def tm (x y : Int × Int) : Int × Int := rd2 (x.1 * y.1) (x.2 * y.2)
theorem Sq.pl {n m : Nat} {x y : Int × Int} (a : Sq n x) (b : Sq m y) : Sq (n + m + 1) (pl x y) := by
  have h1 := mul_lt a.ln b.ld
  have h2 := mul_lt a.ld b.ln
  have h3 := mul_lt a.ld b.ld
  have e : (2 : Nat) ^ (n + m + 1) = 2 ^ (n + m) * 2 := Nat.pow_succ 2 (n + m)
  have n1 := Int.natAbs_mul x.1 y.2
  have n2 := Int.natAbs_mul y.1 x.2
  have n3 := Int.natAbs_mul x.2 y.2
  have n4 : y.1.natAbs * x.2.natAbs = x.2.natAbs * y.1.natAbs := Nat.mul_comm _ _
  refine sq_mk (Int.mul_ne_zero (Int.ne_of_gt a.pos) (Int.ne_of_gt b.pos)) ?_ ?_
  · rw [e]; generalize (2 : Nat) ^ (n + m) = z at *; omega
  · rw [e]; generalize (2 : Nat) ^ (n + m) = z at *; omega
theorem Sq.tm {n m : Nat} {x y : Int × Int} (a : Sq n x) (b : Sq m y) : Sq (n + m) (tm x y) := by
  refine sq_mk (Int.mul_ne_zero (Int.ne_of_gt a.pos) (Int.ne_of_gt b.pos)) ?_ ?_
  · rw [Int.natAbs_mul]; exact mul_lt a.ln b.ln
  · rw [Int.natAbs_mul]; exact mul_lt a.ld b.ld
theorem F_pl {n m : Nat} {x y : Int × Int} (a : Sq n x) (b : Sq m y) (hn : n ≤ 4000) (hm : m ≤ 4000) : F_plus [frD x, frD y] = some (frD (pl x y)) := F_two_ok (a.gd hn) (b.gd hm)
theorem F_tm {n m : Nat} {x y : Int × Int} (a : Sq n x) (b : Sq m y) (hn : n ≤ 4000) (hm : m ≤ 4000) : F_times [frD x, frD y] = some (frD (tm x y)) := F_two_ok (a.gd hn) (b.gd hm)
def lt2 (x y : Int × Int) : Bool := decide (x.1 * y.2 < y.1 * x.2)
theorem F_lt {n m : Nat} {x y : Int × Int} (a : Sq n x) (b : Sq m y) (hn : n ≤ 4000) (hm : m ≤ 4000) : F_below [frD x, frD y] = some (.bool (lt2 x y)) := F_two_ok (a.gd hn) (b.gd hm)
abbrev Ot := Str × List (Int × Int) × (Int × Int)
abbrev oD (o : Ot) : Dat := lineD o.1 o.2.1 o.2.2
structure OkO (c m : Nat) (o : Ot) : Prop where
  kd : Kd o.1
  len : o.2.1.length = m
  sq : ∀ x ∈ o.2.1, Sq c x
  bd : Sq c o.2.2
abbrev Pr := Ot × (Int × Int)
abbrev prD (p : Pr) : Dat := .tuple [oD p.1, frD p.2]
inductive Bud (m : Nat) : List Pr → Nat → Prop
  | nil : Bud m [] 0
  | cons {o : Ot} {w : Int × Int} {l : List Pr} {c d N : Nat} : OkO c m o → Sq d w → Bud m l N → Bud m ((o, w) :: l) (N + (d + c + 1))
theorem zip_prs : ∀ (os : List Ot) (ws : List (Int × Int)), zipL (os.map oD) (ws.map frD) = (os.zip ws).map prD
  | [], ws => by simp [zipL]
  | o :: os, [] => by simp [zipL]
  | o :: os, w :: ws => by simp only [List.map_cons, zipL, List.zip_cons_cons, zip_prs os ws]
abbrev Ac := List (Int × Int) × (Int × Int)
def stp (a : Ac) (p : Pr) : Ac := (List.zipWith (fun x q => pl x (tm p.2 q)) a.1 p.1.2.1, pl a.2 (tm p.2 p.1.2.2))
def tog (m : Nat) (l : List Pr) : Ac := l.foldl stp (List.replicate m (0, 1), (0, 1))
structure SqA (n m : Nat) (a : Ac) : Prop where
  len : a.1.length = m
  sq : ∀ x ∈ a.1, Sq n x
  bd : Sq n a.2
theorem sq01 (n : Nat) (hn : 1 ≤ n) : Sq n (0, 1) := ⟨show (0 : Int) < 1 by decide, show Int.gcd 0 1 = 1 by decide, show (0 : Int).natAbs < 2 ^ n from Nat.pow_pos (by decide), show (1 : Int).natAbs < 2 ^ n from Nat.one_lt_two_pow (by omega)⟩
theorem mem_zipWith {α β γ : Type} {f : α → β → γ} {z : γ} : ∀ {xs : List α} {ys : List β}, z ∈ List.zipWith f xs ys → ∃ x ∈ xs, ∃ y ∈ ys, z = f x y
  | [], ys, h => by simp at h
  | x :: xs, [], h => by simp at h
  | x :: xs, y :: ys, h => by
    rw [List.zipWith_cons_cons] at h
    rcases List.mem_cons.mp h with e | h
    · exact ⟨x, List.mem_cons_self, y, List.mem_cons_self, e⟩
    · obtain ⟨a, ha, b, hb, e⟩ := mem_zipWith h
      exact ⟨a, List.mem_cons_of_mem _ ha, b, List.mem_cons_of_mem _ hb, e⟩
theorem SqA.stp {n m c d : Nat} {a : Ac} {o : Ot} {w : Int × Int} (h : SqA n m a) (ho : OkO c m o) (hw : Sq d w) : SqA (n + (d + c + 1)) m (stp a (o, w)) := by
  refine ⟨?_, fun z hz => ?_, ?_⟩
  · show (List.zipWith _ a.1 o.2.1).length = m
    rw [List.length_zipWith, h.len, ho.len, Nat.min_self]
  · obtain ⟨x, hx, y, hy, e⟩ := mem_zipWith hz
    rw [e]
    exact ((h.sq x hx).pl (hw.tm (ho.sq y hy))).up (by omega)
  · exact (h.bd.pl (hw.tm ho.bd)).up (by omega)
theorem SqA.all {m : Nat} : ∀ {l : List Pr} {N n : Nat} {a : Ac}, Bud m l N → SqA n m a → SqA (n + N) m (l.foldl K15.stp a)
  | [], N, n, a, hb, h => by cases hb; exact h
  | p :: l, N, n, a, hb, h => by
    cases hb with
    | @cons o w l c d N ho hw hb =>
      have := SqA.all hb (h.stp ho hw)
      rw [show n + (N + (d + c + 1)) = n + (d + c + 1) + N by omega]
      exact this
theorem sq0 (m : Nat) : SqA 1 m (List.replicate m (0, 1), (0, 1)) := ⟨List.length_replicate, fun x hx => by rw [(List.mem_replicate.mp hx).2]; exact sq01 1 (by decide), sq01 1 (by decide)⟩
theorem tog_sq {m N : Nat} {l : List Pr} (h : Bud m l N) : SqA (1 + N) m (tog m l) := SqA.all h (sq0 m)
theorem frD_inj {x y : Int × Int} (h : frD x = frD y) : x = y := by
  simp only [PySem.W.Dat.tuple.injEq, List.cons.injEq, PySem.W.Dat.int.injEq, and_true] at h
  exact Prod.ext h.1 h.2
theorem frsD_inj {xs ys : List (Int × Int)} (h : frsD xs = frsD ys) : xs = ys := by
  unfold frsD at h
  rw [PySem.W.Dat.tuple.injEq] at h
  exact (List.map_inj_right fun x y e => frD_inj e).mp h
theorem ok_frs (xs : List (Int × Int)) : kqdOk 9 (frsD xs) = true := by
  show (xs.map frD).all (kqdOk 8) = true
  rw [List.all_map, List.all_eq_true]
  exact fun x _ => rfl
theorem eqB_any {d e : Dat} (h1 : kqdOk 9 d = true) (h2 : kqdOk 9 e = true) (n1 : ∀ b, d ≠ .bool b) (n2 : ∀ b, d ≠ .str b) : eqB d e = some (decD d e) := by
  unfold eqB
  split
  · exact absurd rfl (n1 _)
  · exact absurd rfl (n2 _)
  · exact if_pos ⟨h1, h2⟩
theorem eqD_frs (xs ys : List (Int × Int)) : eqD (frsD xs) (frsD ys) = some (.bool (decide (xs = ys))) := by
  unfold eqD
  rw [eqB_any (ok_frs xs) (ok_frs ys) (fun b h => by cases h) (fun b h => by cases h)]
  by_cases e : xs = ys
  · subst e; rw [decD_t rfl, decide_eq_true rfl]; rfl
  · rw [decD_f fun z => e (frsD_inj z), decide_eq_false e]; rfl
theorem eqD_fr2 (x y : Int × Int) : eqD (frD x) (frD y) = some (.bool (decide (x = y))) := by
  unfold eqD
  rw [eqB_any rfl rfl (fun b h => by cases h) (fun b h => by cases h)]
  by_cases e : x = y
  · subst e; rw [decD_t rfl, decide_eq_true rfl]; rfl
  · rw [decD_f fun z => e (frD_inj z), decide_eq_false e]; rfl
theorem neD_fr2 (x y : Int × Int) : neD (frD x) (frD y) = some (.bool (!decide (x = y))) := by
  have h := eqD_fr2 x y
  unfold eqD at h
  unfold neD
  obtain ⟨k, e1, e2⟩ := map_some' h
  rw [e1]
  injection e2 with e2
  show some (Dat.bool (!k)) = _
  rw [e2]
theorem eqD_strD (x y : Str) : eqD (.str x) (.str y) = some (.bool (decide (x = y))) := rfl
theorem neD_strD (x y : Str) : neD (.str x) (.str y) = some (.bool (!decide (x = y))) := rfl
theorem at30 (x y z : Dat) : atI [x, y, z] 0 = some x := rfl
theorem at31 (x y z : Dat) : atI [x, y, z] 1 = some y := rfl
theorem at32 (x y z : Dat) : atI [x, y, z] 2 = some z := rfl
def kept (k : Str) (b : Int × Int) (kd : Str) (B : Int × Int) : Bool := if B = b then decide (k = "<=") || decide (kd = "<") else lt2 B b
theorem d_kept (T : TX mg) (Dbelow : Dn P w K mg base 3 "below" ["a", "b"] 2 F_below) (U : Fun K "is_kept" "is_kept" (top 10) f fd) (hm : mg "is_kept" = some (.ref f)) (hB : Binds K fd ["line", "kind", "bound"] []) :
    ∃ F, Dn P w K mg base 4 "is_kept" ["line", "kind", "bound"] 3 F ∧ ∀ (k : Str) (xs : List (Int × Int)) (b : Int × Int) (kd : Str) (B : Int × Int) (n m : Nat), Sq n b → Sq m B → n ≤ 4000 → m ≤ 4000 → F [lineD k xs b, .str kd, frD B] = some (.bool (kept k b kd B)) := by
  have nd : (["line", "kind", "bound"] : List Str).Nodup := by decide +kernel
  refine ⟨_, dn_of U hm hB (N := ["line", "kind", "bound"]) ⟨rfl, rfl, rfl, by decide +kernel, rfl, by decide +kernel, by decide +kernel⟩ rfl (fun cdv A outer s H E hr =>
    (psf_cons (psf_if (pft_eq hr (pf_var 2) (pf_ix (pf_var 0) pf_int)) (psf_one (psf_ret (pf_or (pf_eq hr (pf_ix (pf_var 0) pf_int) pf_str) (pf_one (pf_eq hr (pf_var 1) pf_str))))) psf_nil)
    (psf_one (psf_ret (pf_fn Dbelow hr (pfa_cons (pf_var 2) (pfa_cons (pf_ix (pf_var 0) pf_int) pfa_nil))))))) (fun ds d _ h => h), ?_⟩
  intro k xs b kd B n m hb hB hn hm
  have e1 := eqD_fr2 B b
  have e2 := F_lt hB hb hm hn
  unfold kept
  by_cases e : B = b
  · rw [decide_eq_true e] at e1
    rw [if_pos e]
    by_cases c : k = "<="
    · simp! [at30, at31, at32, e1, eqD_strD, eq_true c, Bool.true_or]
    · simp! [at30, at31, at32, e1, eqD_strD, eq_false c, Bool.false_or]
  · rw [decide_eq_false e] at e1
    rw [if_neg e]
    simp! [at30, at31, at32, e1, e2]
def alw (l : List Pr) : Bool := l.all fun (p : Pr) => decide (p.1.1 = ("=" : Str)) || !lt2 p.2 (0, 1)
theorem allD_bools (bs : List Bool) : allD [.list (bs.map .bool)] = some (.bool (bs.all id)) := by
  show (asBs (bs.map Dat.bool)).map _ = _
  rw [asBs_map]; rfl
theorem d_allowed (T : TX mg) {az : Addr} (Z : TZ K mg az) (Dbelow : Dn P w K mg base 3 "below" ["a", "b"] 2 F_below) (U : Fun K "is_allowed" "is_allowed" (top 11) f fd) (hm : mg "is_allowed" = some (.ref f)) (hB : Binds K fd ["others", "paper"] []) :
    ∃ F, Dn P w K mg base 4 "is_allowed" ["others", "paper"] 2 F ∧ (∀ (os : List Ot) (ws : List (Int × Int)), os.length = ws.length → os.length ≤ 100 → (∀ x ∈ ws, Sq 4000 x) → F [.list (os.map oD), .list (ws.map frD)] = some (.bool (alw (os.zip ws)))) ∧ ∀ (os : List Ot) (ws : List (Int × Int)), os.length ≠ ws.length → F [.list (os.map oD), .list (ws.map frD)] = some (.bool false) := by
  have nd : (["others", "paper"] : List Str).Nodup := by decide +kernel
  refine ⟨_, dn_of U hm hB (N := ["others", "paper"]) ⟨rfl, rfl, rfl, by decide +kernel, rfl, by decide +kernel, by decide +kernel⟩ rfl (fun cdv A outer s H E hr =>
    (psf_cons (psf_if (pft_w (pfw_or (pft_not (pft_truth (pf_isinst "list" T.isinstance T.list (pf_var 1)))) (pfw_or1 (pft_ne hr (pf_len T.len (pfa_cons (pf_var 1) pfa_nil)) (pf_len T.len (pfa_cons (pf_var 0) pfa_nil)))))) (psf_one (psf_ret pf_bl)) psf_nil)
    (psf_one (psf_ret (pf_all rfl T.all (pfa_cons (pf_of_l (pfl_compI rfl (blk_plain (N' := ["other", "weight"])) (pif_zip T.zip (pfa_cons (pf_var 0) (pfa_cons (pf_var 1) pfa_nil))) (fun _ _ _ _ => (pgf_tup (n := 2) rfl (pgfs_cons (pgf_name 0 (show (["other", "weight"] : List Str).Nodup by decide +kernel)) (pgfs_cons (pgf_name 1 (show (["other", "weight"] : List Str).Nodup by decide +kernel)) pgfs_nil)))) (fun _ _ _ _ => ptsf_nil) (fun _ _ _ _ => (pf_or (pf_eq hr (pf_ix (pf_var 0) pf_int) pf_str) (pf_one (pf_not (pf_fn Dbelow hr (pfa_cons (pf_var 1) (pfa_cons (pf_globT Z.mg Z.tup) pfa_nil))))))) (tg_two rfl rfl))) pfa_nil)))))) (fun ds d _ h => h), ?_, fun os ws hl => ?_⟩
  rotate_left
  · have i1 : isD "list" (.list (ws.map frD)) = some (.bool true) := rfl
    have l1 : lenD [.list (ws.map frD)] = some (.int ws.length) := by show some (Dat.int ((ws.map frD).length : Nat)) = _; rw [List.length_map]
    have l2 : lenD [.list (os.map oD)] = some (.int os.length) := by show some (Dat.int ((os.map oD).length : Nat)) = _; rw [List.length_map]
    have hl' : ¬ (ws.length : Int) = os.length := by omega
    simp! [i1, l1, l2, neD_int, eq_false hl']
  intro os ws hl h100 hw
  have zl : (os.zip ws).length < sizeLine := by rw [List.length_zip]; exact Nat.lt_of_lt_of_le (show min os.length ws.length < 1000 by omega) (sz (by decide))
  have ec : compL (aTup 2 (aCons (aName 0) (aCons (aName 1) aNil))) tYesF (fOr (L3.f2 eqD (L3.f2 ixD (fVar 0) (fC (.int 0))) (fC (.str "="))) (fNot (fFn 2 F_below (fCons (fVar 1) (fCons (fC (.tuple [.int 0, .int 1])) fNil))))) [none, none] ((os.zip ws).map prD) = some ((((os.zip ws).map fun (p : Pr) => decide (p.1.1 = ("=" : Str)) || !lt2 p.2 (0, 1))).map .bool) := by
    refine compL_all _ _ (by rw [List.length_map, List.length_map, List.length_map]) fun i d o h1 h2 => ?_
    rw [List.getElem?_map] at h1 h2
    rw [List.getElem?_map] at h2
    cases hp : (os.zip ws)[i]? with
    | none => rw [hp] at h1; cases h1
    | some p =>
      rw [hp] at h1 h2
      cases h1
      cases h2
      refine ⟨[(0, oD p.1), (1, frD p.2)], rfl, ?_⟩
      have hpm := (List.of_mem_zip (List.mem_of_getElem? hp)).2
      have e2 : F_below [frD p.2, .tuple [.int 0, .int 1]] = some (.bool (lt2 p.2 (0, 1))) := F_lt (hw p.2 hpm) (sq01 4000 (by decide)) (by decide) (by decide)
      by_cases c : p.1.1 = "="
      · simp! [at30, eqD_strD, eq_true c, Bool.true_or]
      · simp! [at30, eqD_strD, eq_false c, Bool.false_or, e2]
  have ea := allD_bools ((os.zip ws).map fun (p : Pr) => decide (p.1.1 = ("=" : Str)) || !lt2 p.2 (0, 1))
  have e3 : (((os.zip ws).map fun (p : Pr) => decide (p.1.1 = ("=" : Str)) || !lt2 p.2 (0, 1)).all id) = alw (os.zip ws) := by
    unfold alw; rw [List.all_map]; rfl
  rw [e3] at ea
  have i1 : isD "list" (.list (ws.map frD)) = some (.bool true) := rfl
  have l1 : lenD [.list (ws.map frD)] = some (.int ws.length) := by show some (Dat.int ((ws.map frD).length : Nat)) = _; rw [List.length_map]
  have l2 : lenD [.list (os.map oD)] = some (.int os.length) := by show some (Dat.int ((os.map oD).length : Nat)) = _; rw [List.length_map]
  have hl' : (ws.length : Int) = os.length := by omega
  simp! [fCompI, zip_prs, List.length_map, zl, ec, ea, i1, l1, l2, neD_int, eq_true hl']
end
end
section
noncomputable section
variable {P : Program} {w : World} {K : Fg} {mg : Str → Option Value} {base : Heap} {f : Addr} {fd : FuncData}
theorem zip_frs : ∀ (xs ys : List (Int × Int)), zipL (xs.map frD) (ys.map frD) = (xs.zip ys).map fun z => Dat.tuple [frD z.1, frD z.2]
  | [], ys => by simp [zipL]
  | x :: xs, [] => by simp [zipL]
  | x :: xs, y :: ys => by simp only [List.map_cons, zipL, List.zip_cons_cons, zip_frs xs ys]
theorem zipW_map {α β γ : Type} (f : α → β → γ) : ∀ (xs : List α) (ys : List β), List.zipWith f xs ys = (xs.zip ys).map fun z => f z.1 z.2
  | [], ys => by simp
  | x :: xs, [] => by simp
  | x :: xs, y :: ys => by rw [List.zipWith_cons_cons, List.zip_cons_cons, List.map_cons, zipW_map f xs ys]
theorem fRep_z {fb : Rho → Option Dat} {ρ : Rho} {n : Nat} (h : fb ρ = some (.int n)) (hn : n ≤ 100) : fRep (fSz (fCons (fC (.tuple [.int 0, .int 1])) fNil)) fb ρ = some ((List.replicate n ((0, 1) : Int × Int)).map frD) := by
  have z1 : 1 ≤ sizeLine := sz (by decide)
  have zm : 1 * ((n : Int).toNat) ≤ sizeLine := by rw [Nat.one_mul, Int.toNat_natCast]; exact sz (by omega)
  have e1 : fSz (fCons (fC (.tuple [.int 0, .int 1])) fNil) ρ = some [.tuple [.int 0, .int 1]] := by
    show (if 1 ≤ sizeLine then some [Dat.tuple [.int 0, .int 1]] else none) = _
    exact if_pos z1
  unfold fRep
  rw [e1, Option.bind_some, h, Option.bind_some]
  show (if _ then some (List.replicate ((n : Int).toNat) [Dat.tuple [Dat.int 0, Dat.int 1]]).flatten else none) = _
  rw [if_pos ⟨⟨by omega, by omega⟩, zm⟩, flat_rep, List.map_replicate, Int.toNat_natCast]
def kf (κ : Str) (p : Pr) : Str := if p.1.1 = "<" ∧ p.2 ≠ (0, 1) then "<" else κ
theorem d_put (T : TX mg) {az : Addr} (Z : TZ K mg az) (Dplus : Dn P w K mg base 3 "plus" ["a", "b"] 2 F_plus) (Dtimes : Dn P w K mg base 3 "times" ["a", "b"] 2 F_times) (U : Fun K "put_together" "put_together" (top 12) f fd) (hm : mg "put_together" = some (.ref f)) (hB : Binds K fd ["many", "others", "paper"] []) :
    ∃ F, Dn P w K mg base 4 "put_together" ["many", "others", "paper"] 3 F ∧ ∀ (m N : Nat) (os : List Ot) (ws : List (Int × Int)), m ≤ 100 → Bud m (os.zip ws) N → N ≤ 3000 →
      F [.int m, .list (os.map oD), .list (ws.map frD)] = some (lineD ((os.zip ws).foldl kf "<=") (tog m (os.zip ws)).1 (tog m (os.zip ws)).2) := by
  have nd : (["many", "others", "paper", "kind", "parts", "bound", "other", "weight"] : List Str).Nodup := by decide +kernel
  refine ⟨_, dn_of U hm hB (N := ["many", "others", "paper", "kind", "parts", "bound", "other", "weight"]) ⟨rfl, rfl, rfl, by decide +kernel, rfl, by decide +kernel, by decide +kernel⟩ rfl (fun cdv A outer s H E hr =>
    (psf_cons (psf_set 3 nd pf_str)
    (psf_cons (psf_set 4 nd (pf_of_l (pfl_rep (pfl_lst (pfa_cons (pf_globT Z.mg Z.tup) pfa_nil)) (pf_var 0))))
    (psf_cons (psf_set 5 nd (pf_globT Z.mg Z.tup))
    (psf_cons (psf_forI PassesOwn.never rfl (pif_zip T.zip (pfa_cons (pf_var 1) (pfa_cons (pf_var 2) pfa_nil))) (pgf_tup (n := 2) rfl (pgfs_cons (pgf_name 6 nd) (pgfs_cons (pgf_name 7 nd) pgfs_nil)))
    (psf_cons (psf_setCI 4 nd rfl (blk_cap (tn := ["part", "more"]) (fv := ["weight"]) (js := [7]) rfl (by decide +kernel) (by decide +kernel) rfl (by decide +kernel) (by decide +kernel) rfl
      (fun x hx => by ((have hx2 : x = "weight" := (by simpa using hx)); (rcases hx2 with rfl <;> exact ⟨_, rfl⟩)))
      (fun p hp => by ((have hp2 : p = (("weight" : Str), (7 : Nat)) := (by simpa using hp)); (rcases hp2 with rfl <;> exact ⟨rfl, .inr (.inl rfl), .inl rfl, fun z => by cases z⟩)))) (pif_zip T.zip (pfa_cons (pf_var 4) (pfa_cons (pf_ix (pf_var 6) pf_int) pfa_nil))) (fun _ _ _ _ => (pgf_tup (n := 2) rfl (pgfs_cons (pgf_name 0 (show (["part", "more", "weight"] : List Str).Nodup by decide +kernel)) (pgfs_cons (pgf_name 1 (show (["part", "more", "weight"] : List Str).Nodup by decide +kernel)) pgfs_nil)))) (fun _ _ _ _ => ptsf_nil) (fun _ _ _ _ => (pf_fn Dplus hr (pfa_cons (pf_var 0) (pfa_cons (pf_fn Dtimes hr (pfa_cons (pf_var 2) (pfa_cons (pf_var 1) pfa_nil))) pfa_nil)))) (tg_two rfl rfl))
    (psf_cons (psf_set 5 nd (pf_fn Dplus hr (pfa_cons (pf_var 5) (pfa_cons (pf_fn Dtimes hr (pfa_cons (pf_var 7) (pfa_cons (pf_ix (pf_var 6) pf_int) pfa_nil))) pfa_nil))))
    (psf_one (psf_if (pft_w (pfw_and (pft_eq hr (pf_ix (pf_var 6) pf_int) pf_str) (pfw_and1 (pft_ne hr (pf_var 7) (pf_globT Z.mg Z.tup))))) (psf_one (psf_set 3 nd pf_str)) psf_nil)))))
    (psf_one (psf_ret (pf_tup (k := 0) (pfa_cons (pf_var 3) (pfa_cons (pf_tuple T.tuple (pfa_cons (pf_var 4) pfa_nil)) (pfa_cons (pf_var 5) pfa_nil))))))))))) (fun ds d _ h => h), ?_⟩
  intro m N os ws hm100 hb hN
  have z3 : 3 ≤ sizeLine := sz (by decide)
  refine runF_rt ?_
  simp!
  rw [sSeq_nx (Γ' := [some (.imm (.int m)), some (.imm (.list (os.map oD))), some (.imm (.list (ws.map frD))), some (.imm (.str "<=")), none, none, none, none]) (by simp! [if_true])]
  rw [sSeq_nx (Γ' := [some (.imm (.int m)), some (.imm (.list (os.map oD))), some (.imm (.list (ws.map frD))), some (.imm (.str "<=")), some (.imm (.list ((List.replicate m ((0, 1) : Int × Int)).map frD))), none, none, none]) (by
    refine sSet_eq ?_
    show Option.map _ _ = _
    rw [fRep_z (n := m) rfl hm100]; rfl)]
  rw [sSeq_nx (Γ' := [some (.imm (.int m)), some (.imm (.list (os.map oD))), some (.imm (.list (ws.map frD))), some (.imm (.str "<=")), some (.imm (.list ((List.replicate m ((0, 1) : Int × Int)).map frD))), some (.imm (frD (0, 1))), none, none]) (by
    simp! [if_true])]
  refine seq_ex (I := _) (forI_fold (l := os.zip ws) (s := ((List.replicate m (0, 1), (0, 1)), "<=")) prD (fun (s : Ac × Str) Γ => ∃ u v, Γ = [some (.imm (.int m)), some (.imm (.list (os.map oD))), some (.imm (.list (ws.map frD))), some (.imm (.str s.2)), some (.imm (.list (s.1.1.map frD))), some (.imm (frD s.1.2)), u, v])
      (fun (s : Ac × Str) l => ∃ n N, SqA n m s.1 ∧ Bud m l N ∧ n + N ≤ 3900) (fun s p => (stp s.1 p, kf s.2 p)) (by rw [← zip_prs]; rfl) ⟨1, N, sq0 m, hb, by omega⟩ ⟨none, none, rfl⟩ ?_) ?_
  · rintro ⟨a, κ⟩ p l Γ ⟨n, N', hs, hbl, hnn⟩ ⟨u, v, rfl⟩
    cases hbl with
    | @cons o x l c d N'' ho hx hbl =>
      refine ⟨[(6, oD o), (7, frD x)], rfl, ?_⟩
      dsimp!
      have hsn := hs.stp ho hx
      have zl : (a.1.zip o.2.1).length < sizeLine := by rw [List.length_zip, hs.len, ho.len, Nat.min_self]; exact Nat.lt_of_lt_of_le (show m < 1000 by omega) (sz (by decide))
      have ec : compL (aTup 2 (aCons (aName 0) (aCons (aName 1) aNil))) tYesF (fFn 2 F_plus (fCons (fVar 0) (fCons (fFn 2 F_times (fCons (fVar 2) (fCons (fVar 1) fNil))) fNil))) [none, none, some (frD x)] ((a.1.zip o.2.1).map fun z => Dat.tuple [frD z.1, frD z.2]) = some ((stp a (o, x)).1.map frD) := by
        have es : (stp a (o, x)).1 = (a.1.zip o.2.1).map fun z => pl z.1 (tm x z.2) := zipW_map _ _ _
        rw [es]
        refine compL_all _ _ (by rw [List.length_map, List.length_map, List.length_map]) fun i d' o' h1 h2 => ?_
        rw [List.getElem?_map] at h1 h2
        rw [List.getElem?_map] at h2
        cases hp : (a.1.zip o.2.1)[i]? with
        | none => rw [hp] at h1; cases h1
        | some z =>
          rw [hp] at h1 h2
          cases h1
          cases h2
          obtain ⟨hz1, hz2⟩ := List.of_mem_zip (List.mem_of_getElem? hp)
          refine ⟨[(0, frD z.1), (1, frD z.2)], rfl, ?_⟩
          have e1 := F_tm hx (ho.sq z.2 hz2) (by omega) (by omega)
          have e2 := F_pl (hs.sq z.1 hz1) (hx.tm (ho.sq z.2 hz2)) (by omega) (by omega)
          simp! [e1, e2]
      rw [sSeq_nx (Γ' := [some (.imm (.int m)), some (.imm (.list (os.map oD))), some (.imm (.list (ws.map frD))), some (.imm (.str κ)), some (.imm (.list ((stp a (o, x)).1.map frD))), some (.imm (frD a.2)), some (.imm (oD o)), some (.imm (frD x))]) (by
        simp! [sSetC, fCompI, at31, frsD, zip_frs, List.length_map, zl, ec])]
      have e1 := F_tm hx ho.bd (by omega) (by omega)
      have e2 := F_pl hs.bd (hx.tm ho.bd) (by omega) (by omega)
      rw [sSeq_nx (Γ' := [some (.imm (.int m)), some (.imm (.list (os.map oD))), some (.imm (.list (ws.map frD))), some (.imm (.str κ)), some (.imm (.list ((stp a (o, x)).1.map frD))), some (.imm (frD (stp a (o, x)).2)), some (.imm (oD o)), some (.imm (frD x))]) (by
        simp! [at32, e1, e2, stp])]
      have e3 : neD (frD x) (.tuple [.int 0, .int 1]) = some (.bool (!decide (x = (0, 1)))) := neD_fr2 x (0, 1)
      refine ⟨[some (.imm (.int m)), some (.imm (.list (os.map oD))), some (.imm (.list (ws.map frD))), some (.imm (.str (kf κ (o, x)))), some (.imm (.list ((stp a (o, x)).1.map frD))), some (.imm (frD (stp a (o, x)).2)), some (.imm (oD o)), some (.imm (frD x))], ?_, ⟨_, _, rfl⟩, _, _, hsn, hbl, by omega⟩
      unfold kf
      by_cases c1 : o.1 = "<"
      · by_cases c2 : x = (0, 1)
        · rw [if_neg (fun z => z.2 c2)]
          simp! [at30, eqD_strD, e3, eq_true c1, eq_true c2]
        · rw [if_pos ⟨c1, c2⟩]
          simp! [at30, eqD_strD, e3, eq_true c1, eq_false c2]
      · rw [if_neg (fun z => c1 z.1)]
        simp! [at30, eqD_strD, eq_false c1]
  · rintro Γ' ⟨u, v, rfl⟩
    rw [foldl_two]
    simp! [z3]
    rfl
end
end
section
noncomputable section
variable {P : Program} {w : World} {K : Fg} {mg : Str → Option Value} {base : Heap} {f : Addr} {fd : FuncData}
def hlf (k : Str) (xs : List (Int × Int)) (b : Int × Int) (l : List Pr) : Bool := if alw l = true then (decide ((tog xs.length l).1 = xs) && kept k b (l.foldl kf "<=") (tog xs.length l).2) || (decide ((tog xs.length l).1 = List.replicate xs.length (0, 1)) && kept "<" (0, 1) (l.foldl kf "<=") (tog xs.length l).2) else false
theorem lenT (xs : List (Int × Int)) : lenD [frsD xs] = some (.int xs.length) := by show some (Dat.int ((xs.map frD).length : Nat)) = _; rw [List.length_map]
theorem noth_ok {k z : Dat} {fr' : Rho → Option (List Dat)} {ρ : Rho} {ds : List Dat} (h : fr' ρ = some ds) : fTup (fCons (fC k) (fCons (fCall tupleD (fCons (fL fr') fNil)) (fCons (fC z) fNil))) ρ = some (.tuple [k, .tuple ds, z]) := by
  have z3 : 3 ≤ sizeLine := sz (by decide)
  simp only [fTup, fCons, fNil, fC, fCall, fL, h, Option.bind_some, Option.map_some, tupleD, List.length_cons, List.length_nil, Nat.zero_add, Nat.reduceAdd, z3, if_true]
structure Inp (c m : Nat) (os : List Ot) (ws : List (Int × Int)) : Prop where
  len : os.length = ws.length
  le : os.length ≤ 100
  sq : ∀ x ∈ ws, Sq 4000 x
  bud : ∃ N, Bud m (os.zip ws) N ∧ N ≤ 3000
theorem d_half (T : TX mg) {az : Addr} (Z : TZ K mg az) {Fa Fp Fk : List Dat → Option Dat} (Dis_allowed : Dn P w K mg base 4 "is_allowed" ["others", "paper"] 2 Fa) (ha : ∀ (os : List Ot) (ws : List (Int × Int)), os.length = ws.length → os.length ≤ 100 → (∀ x ∈ ws, Sq 4000 x) → Fa [.list (os.map oD), .list (ws.map frD)] = some (.bool (alw (os.zip ws)))) (ha2 : ∀ (os : List Ot) (ws : List (Int × Int)), os.length ≠ ws.length → Fa [.list (os.map oD), .list (ws.map frD)] = some (.bool false))
    (Dput_together : Dn P w K mg base 4 "put_together" ["many", "others", "paper"] 3 Fp) (hp : ∀ (m N : Nat) (os : List Ot) (ws : List (Int × Int)), m ≤ 100 → Bud m (os.zip ws) N → N ≤ 3000 → Fp [.int m, .list (os.map oD), .list (ws.map frD)] = some (lineD ((os.zip ws).foldl kf "<=") (tog m (os.zip ws)).1 (tog m (os.zip ws)).2))
    (Dis_kept : Dn P w K mg base 4 "is_kept" ["line", "kind", "bound"] 3 Fk) (hk : ∀ (k : Str) (xs : List (Int × Int)) (b : Int × Int) (kd : Str) (B : Int × Int) (n m : Nat), Sq n b → Sq m B → n ≤ 4000 → m ≤ 4000 → Fk [lineD k xs b, .str kd, frD B] = some (.bool (kept k b kd B)))
    (U : Fun K "is_half_right" "is_half_right" (top 13) f fd) (hm : mg "is_half_right" = some (.ref f)) (hB : Binds K fd ["line", "others", "paper"] []) :
    ∃ F, Dn P w K mg base 5 "is_half_right" ["line", "others", "paper"] 3 F ∧ (∀ (k : Str) (xs : List (Int × Int)) (b : Int × Int) (os : List Ot) (ws : List (Int × Int)), xs.length ≤ 100 → Sq 4000 b → Inp 0 xs.length os ws → F [lineD k xs b, .list (os.map oD), .list (ws.map frD)] = some (.bool (hlf k xs b (os.zip ws)))) ∧ ∀ (k : Str) (xs : List (Int × Int)) (b : Int × Int) (os : List Ot) (ws : List (Int × Int)), os.length ≠ ws.length → F [lineD k xs b, .list (os.map oD), .list (ws.map frD)] = some (.bool false) := by
  have nd : (["line", "others", "paper", "shown", "nothing"] : List Str).Nodup := by decide +kernel
  refine ⟨_, dn_of U hm hB (N := ["line", "others", "paper", "shown", "nothing"]) ⟨rfl, rfl, rfl, by decide +kernel, rfl, by decide +kernel, by decide +kernel⟩ rfl (fun cdv A outer s H E hr =>
    (psf_cons (psf_if (pft_not (pft_truth (pf_fn Dis_allowed hr (pfa_cons (pf_var 1) (pfa_cons (pf_var 2) pfa_nil))))) (psf_one (psf_ret pf_bl)) psf_nil)
    (psf_cons (psf_set 3 nd (pf_fn Dput_together hr (pfa_cons (pf_len T.len (pfa_cons (pf_ix (pf_var 0) pf_int) pfa_nil)) (pfa_cons (pf_var 1) (pfa_cons (pf_var 2) pfa_nil)))))
    (psf_cons (psf_if (pft_w (pfw_and (pft_eq hr (pf_ix (pf_var 3) pf_int) (pf_ix (pf_var 0) pf_int)) (pfw_and1 (pft_truth (pf_fn Dis_kept hr (pfa_cons (pf_var 0) (pfa_cons (pf_ix (pf_var 3) pf_int) (pfa_cons (pf_ix (pf_var 3) pf_int) pfa_nil)))))))) (psf_one (psf_ret pf_bl)) psf_nil)
    (psf_cons (psf_set 4 nd (pf_tup (k := 0) (pfa_cons pf_str (pfa_cons (pf_tuple T.tuple (pfa_cons (pf_of_l (pfl_rep (pfl_lst (pfa_cons (pf_globT Z.mg Z.tup) pfa_nil)) (pf_len T.len (pfa_cons (pf_ix (pf_var 0) pf_int) pfa_nil)))) pfa_nil)) (pfa_cons (pf_globT Z.mg Z.tup) pfa_nil)))))
    (psf_one (psf_ret (pf_and (pf_eq hr (pf_ix (pf_var 3) pf_int) (pf_ix (pf_var 4) pf_int)) (pf_one (pf_fn Dis_kept hr (pfa_cons (pf_var 4) (pfa_cons (pf_ix (pf_var 3) pf_int) (pfa_cons (pf_ix (pf_var 3) pf_int) pfa_nil))))))))))))) (fun ds d _ h => h), ?_, fun k xs b os ws hl => ?_⟩
  rotate_left
  · have e1 := ha2 os ws hl
    simp! [e1]
  intro k xs b os ws h100 hb hi
  obtain ⟨N, hbud, hN⟩ := hi.bud
  have e1 := ha os ws hi.len hi.le hi.sq
  have e2 := hp xs.length N os ws h100 hbud hN
  have hT := tog_sq hbud
  have e3 := hk k xs b ((os.zip ws).foldl kf "<=") (tog xs.length (os.zip ws)).2 4000 (1 + N) hb hT.bd (by decide) (by omega)
  have e4 := hk "<" (List.replicate xs.length (0, 1)) (0, 1) ((os.zip ws).foldl kf "<=") (tog xs.length (os.zip ws)).2 1 (1 + N) (sq01 1 (by decide)) hT.bd (by decide) (by omega)
  have e5 := eqD_frs (tog xs.length (os.zip ws)).1 xs
  have e6 := eqD_frs (tog xs.length (os.zip ws)).1 (List.replicate xs.length (0, 1))
  have z3 : 3 ≤ sizeLine := sz (by decide)
  unfold hlf
  generalize tog xs.length (os.zip ws) = TT at *
  generalize (os.zip ws).foldl kf "<=" = kd at *
  refine runF_rt ?_
  simp!
  by_cases c0 : alw (os.zip ws) = true
  · rw [if_pos c0]
    rw [c0] at e1
    rw [sSeq_nx (Γ' := [some (.imm (lineD k xs b)), some (.imm (.list (os.map oD))), some (.imm (.list (ws.map frD))), none, none]) (by simp! [e1])]
    rw [sSeq_nx (Γ' := [some (.imm (lineD k xs b)), some (.imm (.list (os.map oD))), some (.imm (.list (ws.map frD))), some (.imm (lineD kd TT.1 TT.2)), none]) (by simp! [at31, lenT, e2])]
    have fin : ∀ {g1 g2 : Gam → Option Fl} {q : Bool}, g1 [some (.imm (lineD k xs b)), some (.imm (.list (os.map oD))), some (.imm (.list (ws.map frD))), some (.imm (lineD kd TT.1 TT.2)), none] = some (.nx [some (.imm (lineD k xs b)), some (.imm (.list (os.map oD))), some (.imm (.list (ws.map frD))), some (.imm (lineD kd TT.1 TT.2)), none]) →
        g2 [some (.imm (lineD k xs b)), some (.imm (.list (os.map oD))), some (.imm (.list (ws.map frD))), some (.imm (lineD kd TT.1 TT.2)), none] = some (.rt (.bool q)) → sSeq g1 g2 [some (.imm (lineD k xs b)), some (.imm (.list (os.map oD))), some (.imm (.list (ws.map frD))), some (.imm (lineD kd TT.1 TT.2)), none] = some (.rt (.bool q)) := fun h1 h2 => (sSeq_nx h1).trans h2
    by_cases c1 : TT.1 = xs
    · rw [decide_eq_true c1] at e5
      rw [decide_eq_true c1, Bool.true_and]
      cases q1 : kept k b kd TT.2 with
      | true =>
        rw [q1] at e3
        simp! [at30, at31, at32, e5, e3, Bool.true_or]
      | false =>
        rw [q1] at e3
        rw [Bool.false_or]
        refine fin (by simp! [at30, at31, at32, e5, e3]) ?_
        refine (sSeq_nx (Γ' := [some (.imm (lineD k xs b)), some (.imm (.list (os.map oD))), some (.imm (.list (ws.map frD))), some (.imm (lineD kd TT.1 TT.2)), some (.imm (lineD "<" (List.replicate xs.length (0, 1)) (0, 1)))]) (sSet_eq (noth_ok (fRep_z (n := xs.length) (by simp! [at31, lenT]) h100)))).trans ?_
        by_cases c2 : TT.1 = List.replicate xs.length (0, 1)
        · rw [decide_eq_true c2] at e6
          rw [decide_eq_true c2, Bool.true_and]
          simp! [at30, at31, at32, e6, e4]
        · rw [decide_eq_false c2] at e6
          rw [decide_eq_false c2, Bool.false_and]
          simp! [at30, at31, at32, e6, e4]
    · rw [decide_eq_false c1] at e5
      rw [decide_eq_false c1, Bool.false_and, Bool.false_or]
      refine fin (by simp! [at30, at31, at32, e5]) ?_
      refine (sSeq_nx (Γ' := [some (.imm (lineD k xs b)), some (.imm (.list (os.map oD))), some (.imm (.list (ws.map frD))), some (.imm (lineD kd TT.1 TT.2)), some (.imm (lineD "<" (List.replicate xs.length (0, 1)) (0, 1)))]) (sSet_eq (noth_ok (fRep_z (n := xs.length) (by simp! [at31, lenT]) h100)))).trans ?_
      by_cases c2 : TT.1 = List.replicate xs.length (0, 1)
      · rw [decide_eq_true c2] at e6
        rw [decide_eq_true c2, Bool.true_and]
        simp! [at30, at31, at32, e6, e4]
      · rw [decide_eq_false c2] at e6
        rw [decide_eq_false c2, Bool.false_and]
        simp! [at30, at31, at32, e6, e4]
  · have c0' : alw (os.zip ws) = false := by simpa using c0
    rw [if_neg c0]
    rw [c0'] at e1
    simp! [e1]
end
end
section
noncomputable section
variable {P : Program} {w : World} {K : Fg} {mg : Str → Option Value} {base : Heap} {f : Addr} {fd : FuncData}
abbrev F_ltimes := F_two fun p q r s => some (mk (p * r) (q * s))
abbrev F_lbelow := F_two fun p q r s => some (.bool (decide (p * s < r * q)))
theorem d_ltimes (T : TX mg) (Dl_make : Dn P w K mg base 1 "_law_make" ["n", "d"] 2 F_lmake) (U : Fun K "_law_times" "_law_times" (top 21) f fd) (hm : mg "_law_times" = some (.ref f)) (hB : Binds K fd ["a", "b"] []) : Dn P w K mg base 2 "_law_times" ["a", "b"] 2 F_ltimes := by
  have nd : (["a", "b"] : List Str).Nodup := by decide +kernel
  refine dn_of U hm hB (N := ["a", "b"]) ⟨rfl, rfl, rfl, by decide +kernel, rfl, by decide +kernel, by decide +kernel⟩ rfl (fun cdv A outer s H E hr =>
    (psf_one (psf_ret (pf_fn Dl_make hr (pfa_cons (pf_mul (pf_ix (pf_var 0) pf_int) (pf_ix (pf_var 1) pf_int)) (pfa_cons (pf_mul (pf_ix (pf_var 0) pf_int) (pf_ix (pf_var 1) pf_int)) pfa_nil)))))) ?_
  intro ds d hl hF
  obtain ⟨p, q, r, s, rfl, g1, g2, e⟩ := two_inv hF
  have z := Int.mul_pos g1.pos g2.pos
  cases e
  simp! [atI2_0, atI2_1, mulM g1.mp g2.mp, mulM g1.mq g2.mq, lmake_ok z (g1.mq.mul g2.mq)]
theorem d_lbelow (T : TX mg) (U : Fun K "_law_below" "_law_below" (top 22) f fd) (hm : mg "_law_below" = some (.ref f)) (hB : Binds K fd ["a", "b"] []) : Dn P w K mg base 1 "_law_below" ["a", "b"] 2 F_lbelow := by
  have nd : (["a", "b"] : List Str).Nodup := by decide +kernel
  refine dn_of U hm hB (N := ["a", "b"]) ⟨rfl, rfl, rfl, by decide +kernel, rfl, by decide +kernel, by decide +kernel⟩ rfl (fun cdv A outer s H E hr =>
    (psf_one (psf_ret (pf_lt (pf_mul (pf_ix (pf_var 0) pf_int) (pf_ix (pf_var 1) pf_int)) (pf_mul (pf_ix (pf_var 1) pf_int) (pf_ix (pf_var 0) pf_int)))))) ?_
  intro ds d hl hF
  obtain ⟨p, q, r, s, rfl, g1, g2, e⟩ := two_inv hF
  cases e
  simp! [atI2_0, atI2_1, mulM g1.mp g2.mq, mulM g2.mp g1.mq, ltD_int]
theorem L_pl {n m : Nat} {x y : Int × Int} (a : Sq n x) (b : Sq m y) (hn : n ≤ 4000) (hm : m ≤ 4000) : F_lplus [frD x, frD y] = some (frD (pl x y)) := F_two_ok (a.gd hn) (b.gd hm)
theorem L_tm {n m : Nat} {x y : Int × Int} (a : Sq n x) (b : Sq m y) (hn : n ≤ 4000) (hm : m ≤ 4000) : F_ltimes [frD x, frD y] = some (frD (tm x y)) := F_two_ok (a.gd hn) (b.gd hm)
theorem L_lt {n m : Nat} {x y : Int × Int} (a : Sq n x) (b : Sq m y) (hn : n ≤ 4000) (hm : m ≤ 4000) : F_lbelow [frD x, frD y] = some (.bool (lt2 x y)) := F_two_ok (a.gd hn) (b.gd hm)
theorem atI_map {xs : List (Int × Int)} {i : Nat} {x : Int × Int} (h : xs[i]? = some x) : atI (xs.map frD) (0 + (i : Int)) = some (frD x) := by
  have hl : i < xs.length := (List.getElem?_eq_some_iff.mp h).1
  unfold L2.atI L2.ixN
  rw [if_pos (by omega), if_pos (by rw [List.length_map]; omega)]
  show (xs.map frD)[(0 + (i : Int)).toNat]? = _
  rw [show (0 + (i : Int)).toNat = i by omega, List.getElem?_map, h]; rfl
theorem rng_get {n i : Nat} {d : Dat} (h : (rngD 0 n)[i]? = some d) : i < n ∧ d = .int (0 + (i : Int)) := rngD_get h
theorem cut_take {ds : List Dat} {m : Nat} (h : m ≤ ds.length) : L3.cutD ds none (some (m : Int)) = ds.take m := by
  unfold L3.cutD
  rw [HT.sIx_nat, HT.sIx_none, List.drop_zero, Nat.sub_zero, Nat.min_eq_left h]
abbrev vec (a : Ac) : List (Int × Int) := a.1 ++ [a.2]
theorem vec_stp {m c : Nat} {a : Ac} {o : Ot} {x : Int × Int} (ha : a.1.length = m) (ho : o.2.1.length = m) : vec (stp a (o, x)) = List.zipWith (fun p q => pl p (tm x q)) (vec a) (o.2.1 ++ [o.2.2]) := by
  show List.zipWith _ a.1 o.2.1 ++ [_] = _
  rw [List.zipWith_append (by rw [ha, ho])]
  rfl
theorem zipW_get {α β γ : Type} {f : α → β → γ} : ∀ {xs : List α} {ys : List β} {i : Nat} {z : γ}, (List.zipWith f xs ys)[i]? = some z → ∃ x y, xs[i]? = some x ∧ ys[i]? = some y ∧ z = f x y
  | [], ys, i, z, h => by simp at h
  | x :: xs, [], i, z, h => by simp at h
  | x :: xs, y :: ys, 0, z, h => by simp at h; exact ⟨x, y, rfl, rfl, h.symm⟩
  | x :: xs, y :: ys, i + 1, z, h => by
    obtain ⟨a, b, h1, h2, h3⟩ := zipW_get (xs := xs) (ys := ys) (i := i) (by simpa using h)
    exact ⟨a, b, by simpa using h1, by simpa using h2, h3⟩
theorem rng1_j (j : Int) (h1 : 0 ≤ j) (h2 : j ≤ 2000) : rng1 [.int j] = some (rngD 0 j.toNat) := if_pos ⟨by omega, by omega⟩
theorem rng1_ok (n : Nat) (h : n ≤ 1000) : rng1 [.int ((n : Int) + 1)] = some (rngD 0 (n + 1)) := by
  have e : ((n : Int) + 1).toNat = n + 1 := by omega
  rw [rng1_j _ (by omega) (by omega), e]
theorem fcompI_ok {cap : List (Option Nat)} {gt : Dat → Option Asg} {ft : Rho → Option Bool} {fe : Rho → Option Dat} {fi : Rho → Option (List Dat)} {ρ : Rho} {ds out : List Dat} (h : fi ρ = some ds) (hl : ds.length < sizeLine) (hc : compL gt ft fe (capR cap ρ) ds = some out) : fL (fCompI cap gt ft fe fi) ρ = some (.list out) := by
  unfold fL fCompI
  rw [h, Option.bind_some, if_pos hl, hc]; rfl
theorem iRng_ok {rg : List Dat → Option (List Dat)} {fs : Rho → Option (List Dat)} {ρ : Rho} {as ds : List Dat} (h : fs ρ = some as) (h2 : rg as = some ds) : iRng rg fs ρ = some ds := by
  unfold iRng
  rw [h]; exact h2
theorem d_tog (T : TX mg) (Dl_plus : Dn P w K mg base 2 "_law_plus" ["a", "b"] 2 F_lplus) (Dl_times : Dn P w K mg base 2 "_law_times" ["a", "b"] 2 F_ltimes) (U : Fun K "_law_together" "_law_together" (top 25) f fd) (hm : mg "_law_together" = some (.ref f)) (hB : Binds K fd ["others", "weights", "many"] []) :
    ∃ F, Dn P w K mg base 3 "_law_together" ["others", "weights", "many"] 3 F ∧ ∀ (m N : Nat) (os : List Ot) (ws : List (Int × Int)), m ≤ 100 → Bud m (os.zip ws) N → N ≤ 3000 →
      F [.list (os.map oD), .list (ws.map frD), .int m] = some (.tuple [frsD (tog m (os.zip ws)).1, frD (tog m (os.zip ws)).2]) := by
  have nd : (["others", "weights", "many", "sums", "other", "weight", "numbers"] : List Str).Nodup := by decide +kernel
  refine ⟨_, dn_of U hm hB (N := ["others", "weights", "many", "sums", "other", "weight", "numbers"]) ⟨rfl, rfl, rfl, by decide +kernel, rfl, by decide +kernel, by decide +kernel⟩ rfl (fun cdv A outer s H E hr =>
    (psf_cons (psf_set 3 nd (pf_of_l (pfl_compI rfl (blk_plain (N' := ["k"])) (pif_range1 T.range (pfa_cons (pf_add (pf_var 2) pf_int) pfa_nil)) (fun _ _ _ _ => (pgf_name 0 (show (["k"] : List Str).Nodup by decide +kernel))) (fun _ _ _ _ => ptsf_nil) (fun _ _ _ _ => (pf_tup (k := 0) (pfa_cons pf_int (pfa_cons pf_int pfa_nil)))) (tg_name rfl))))
    (psf_cons (psf_forI PassesOwn.never rfl (pif_zip T.zip (pfa_cons (pf_var 0) (pfa_cons (pf_var 1) pfa_nil))) (pgf_tup (n := 2) rfl (pgfs_cons (pgf_name 4 nd) (pgfs_cons (pgf_name 5 nd) pgfs_nil)))
    (psf_cons (psf_set 6 nd (pf_cat (pf_of_l (pfl_list T.list (pfa_cons (pf_ix (pf_var 4) pf_int) pfa_nil))) (pf_lst (pfa_cons (pf_ix (pf_var 4) pf_int) pfa_nil))))
    (psf_one (psf_set 3 nd (pf_of_l (pfl_compI rfl (blk_cap (tn := ["k"]) (fv := ["weight", "sums", "numbers"]) (js := [5, 3, 6]) rfl (by decide +kernel) (by decide +kernel) rfl (by decide +kernel) (by decide +kernel) rfl
      (fun x hx => by ((have hx2 : x = "weight" ∨ x = "sums" ∨ x = "numbers" := (by simpa using hx)); (rcases hx2 with rfl | rfl | rfl <;> exact ⟨_, rfl⟩)))
      (fun p hp => by ((have hp2 : p = (("weight" : Str), (5 : Nat)) ∨ p = (("sums" : Str), (3 : Nat)) ∨ p = (("numbers" : Str), (6 : Nat)) := (by simpa using hp)); (rcases hp2 with rfl | rfl | rfl <;> exact ⟨rfl, .inr (.inl rfl), .inl rfl, fun z => by cases z⟩)))) (pif_range1 T.range (pfa_cons (pf_add (pf_var 2) pf_int) pfa_nil)) (fun _ _ _ _ => (pgf_name 0 (show (["k", "weight", "sums", "numbers"] : List Str).Nodup by decide +kernel))) (fun _ _ _ _ => ptsf_nil) (fun _ _ _ _ => (pf_fn Dl_plus hr (pfa_cons (pf_ix (pf_var 2) (pf_var 0)) (pfa_cons (pf_fn Dl_times hr (pfa_cons (pf_var 1) (pfa_cons (pf_ix (pf_var 3) (pf_var 0)) pfa_nil))) pfa_nil)))) (tg_name rfl)))))))
    (psf_one (psf_ret (pf_tup (k := 0) (pfa_cons (pf_tuple T.tuple (pfa_cons (pf_slice (pf_var 3) pfo_none (pfo_some (pf_var 2))) pfa_nil)) (pfa_cons (pf_ix (pf_var 3) (pf_var 2)) pfa_nil)))))))) (fun ds d _ h => h), ?_⟩
  intro m N os ws hm100 hb hN
  have z2 : 2 ≤ sizeLine := sz (by decide)
  have zm : m + 1 < sizeLine := Nat.lt_of_lt_of_le (show m + 1 < 1000 by omega) (sz (by decide))
  have eR := rng1_ok m (by omega)
  have ec0 : compL (aName 0) tYesF (fTup (fCons (fC (.int 0)) (fCons (fC (.int 1)) fNil))) [none] (rngD 0 (m + 1)) = some ((vec (List.replicate m (0, 1), (0, 1))).map frD) := by
    refine compL_all _ _ (by rw [rng_len, List.length_map, List.length_append, List.length_replicate, List.length_singleton]) fun i d o h1 h2 => ⟨[(0, d)], rfl, ?_⟩
    have : o = frD (0, 1) := by
      have := List.mem_of_getElem? h2
      obtain ⟨x, hx, rfl⟩ := List.mem_map.mp this
      rcases List.mem_append.mp hx with h | h
      · rw [(List.mem_replicate.mp h).2]
      · rw [List.mem_singleton.mp h]
    rw [this]
    simp! [z2]
  refine runF_rt ?_
  simp!
  rw [sSeq_nx (Γ' := [some (.imm (.list (os.map oD))), some (.imm (.list (ws.map frD))), some (.imm (.int m)), some (.imm (.list ((vec (List.replicate m (0, 1), (0, 1))).map frD))), none, none, none]) (by
    exact sSet_eq (fcompI_ok (iRng_ok (as := [.int ((m : Int) + 1)]) rfl eR) (by rw [rng_len]; exact zm) ec0))]
  refine seq_ex (I := _) (forI_fold (l := os.zip ws) (s := (List.replicate m (0, 1), (0, 1))) prD (fun (a : Ac) Γ => ∃ u v t, Γ = [some (.imm (.list (os.map oD))), some (.imm (.list (ws.map frD))), some (.imm (.int m)), some (.imm (.list ((vec a).map frD))), u, v, t])
      (fun (a : Ac) l => ∃ n N, SqA n m a ∧ Bud m l N ∧ n + N ≤ 3900) stp (by rw [← zip_prs]; rfl) ⟨1, N, sq0 m, hb, by omega⟩ ⟨none, none, none, rfl⟩ ?_) ?_
  · rintro a p l Γ ⟨n, N', hs, hbl, hnn⟩ ⟨u, v, t, rfl⟩
    cases hbl with
    | @cons o x l c d N'' ho hx hbl =>
      refine ⟨[(4, oD o), (5, frD x)], rfl, ?_⟩
      dsimp!
      have hsn := hs.stp ho hx
      have lv : (vec a).length = m + 1 := by rw [List.length_append, hs.len, List.length_singleton]
      have lq : (o.2.1 ++ [o.2.2]).length = m + 1 := by rw [List.length_append, ho.len, List.length_singleton]
      have z1 : 1 ≤ sizeLine := sz (by decide)
      have zc : m + 1 ≤ sizeLine := Nat.le_of_lt zm
      have ecat : catD (.list (o.2.1.map frD)) (.list [frD o.2.2]) = some (.list ((o.2.1 ++ [o.2.2]).map frD)) := by
        show (if (o.2.1.map frD).length + 1 ≤ sizeLine then some (Dat.list (o.2.1.map frD ++ [frD o.2.2])) else none) = _
        rw [if_pos (by rw [List.length_map, ho.len]; exact zc), List.map_append]; rfl
      have elist : listD [frsD o.2.1] = some (o.2.1.map frD) := rfl
      have ec : compL (aName 0) tYesF (fFn 2 F_lplus (fCons (L3.f2 ixD (fVar 2) (fVar 0)) (fCons (fFn 2 F_ltimes (fCons (fVar 1) (fCons (L3.f2 ixD (fVar 3) (fVar 0)) fNil))) fNil))) [none, some (frD x), some (.list ((vec a).map frD)), some (.list ((o.2.1 ++ [o.2.2]).map frD))] (rngD 0 (m + 1)) = some ((vec (stp a (o, x))).map frD) := by
        refine compL_all _ _ (by rw [rng_len, List.length_map, List.length_append, hsn.len, List.length_singleton]) fun i d' o' h1 h2 => ?_
        obtain ⟨hi, rfl⟩ := rng_get h1
        refine ⟨[(0, .int (0 + (i : Int)))], rfl, ?_⟩
        rw [List.getElem?_map, vec_stp (c := c) hs.len ho.len] at h2
        cases hz : (List.zipWith (fun p q => pl p (tm x q)) (vec a) (o.2.1 ++ [o.2.2]))[i]? with
        | none => rw [hz] at h2; cases h2
        | some z =>
          rw [hz] at h2
          cases h2
          obtain ⟨p, q, g1, g2, rfl⟩ := zipW_get hz
          have sp : Sq n p := by
            rcases List.mem_append.mp (List.mem_of_getElem? g1) with h | h
            · exact hs.sq p h
            · rw [List.mem_singleton.mp h]; exact hs.bd
          have sq : Sq c q := by
            rcases List.mem_append.mp (List.mem_of_getElem? g2) with h | h
            · exact ho.sq q h
            · rw [List.mem_singleton.mp h]; exact ho.bd
          have a1 := atI_map g1
          have a2 := atI_map g2
          have e1 := L_tm hx sq (by omega) (by omega)
          have e2 := L_pl sp (hx.tm sq) (by omega) (by omega)
          simp! [a1, a2, e1, e2]
      rw [sSeq_nx (Γ' := [some (.imm (.list (os.map oD))), some (.imm (.list (ws.map frD))), some (.imm (.int m)), some (.imm (.list ((vec a).map frD))), some (.imm (oD o)), some (.imm (frD x)), some (.imm (.list ((o.2.1 ++ [o.2.2]).map frD)))]) (by
        simp! [at31, at32, elist, z1, ecat])]
      refine ⟨[some (.imm (.list (os.map oD))), some (.imm (.list (ws.map frD))), some (.imm (.int m)), some (.imm (.list ((vec (stp a (o, x))).map frD))), some (.imm (oD o)), some (.imm (frD x)), some (.imm (.list ((o.2.1 ++ [o.2.2]).map frD)))], ?_, ⟨_, _, _, rfl⟩, _, _, hsn, hbl, by omega⟩
      exact sSet_eq (fcompI_ok (iRng_ok (as := [.int ((m : Int) + 1)]) rfl eR) (by rw [rng_len]; exact zm) ec)
  · rintro Γ' ⟨u, v, t, rfl⟩
    have hT := tog_sq hb
    show _ = some (Fl.rt (.tuple [frsD (tog m (os.zip ws)).1, frD (tog m (os.zip ws)).2]))
    have eT : (os.zip ws).foldl stp (List.replicate m (0, 1), (0, 1)) = tog m (os.zip ws) := rfl
    rw [eT]
    generalize tog m (os.zip ws) = TT at *
    have lv : ((vec TT).map frD).length = m + 1 := by rw [List.length_map, List.length_append, hT.len, List.length_singleton]
    have es : slD (.list ((vec TT).map frD)) none (some (m : Int)) = some (.list (TT.1.map frD)) := by
      show some (Dat.list (L3.cutD ((vec TT).map frD) none (some (m : Int)))) = _
      rw [cut_take (by omega), ← List.map_take, List.take_append_of_le_length (by rw [hT.len]; omega), List.take_of_length_le (by rw [hT.len]; omega)]
    have ei : atI ((vec TT).map frD) (m : Int) = some (frD TT.2) := by
      have := atI_map (xs := vec TT) (i := m) (x := TT.2) (by rw [List.getElem?_append_right (by rw [hT.len]; omega), hT.len, Nat.sub_self]; rfl)
      rw [Int.zero_add] at this
      exact this
    simp! [fSl, oNone, oSome, asI, es, ei, z2]
    rfl
def ng (x : Int × Int) : Int × Int := (-x.1, x.2)
theorem d_turned (T : TX mg) (U : Fun K "_law_turned" "_law_turned" (top 27) f fd) (hm : mg "_law_turned" = some (.ref f)) (hB : Binds K fd ["parts", "bound"] []) :
    ∃ F, Dn P w K mg base 1 "_law_turned" ["parts", "bound"] 2 F ∧ ∀ (xs : List (Int × Int)) (b : Int × Int), xs.length ≤ 100 → F [frsD xs, frD b] = some (.tuple [frsD (xs.map ng), frD (ng b)]) := by
  have nd : (["parts", "bound"] : List Str).Nodup := by decide +kernel
  refine ⟨_, dn_of U hm hB (N := ["parts", "bound"]) ⟨rfl, rfl, rfl, by decide +kernel, rfl, by decide +kernel, by decide +kernel⟩ rfl (fun cdv A outer s H E hr =>
    (psf_one (psf_ret (pf_tup (k := 0) (pfa_cons (pf_tuple T.tuple (pfa_cons (pf_of_l (pfl_comp rfl (blk_plain (N' := ["part"])) (pf_var 0) (fun _ _ _ _ => (pgf_name 0 (show (["part"] : List Str).Nodup by decide +kernel))) (fun _ _ _ _ => ptsf_nil) (fun _ _ _ _ => (pf_tup (k := 0) (pfa_cons (pf_neg (pf_ix (pf_var 0) pf_int)) (pfa_cons (pf_ix (pf_var 0) pf_int) pfa_nil)))) (tg_name rfl))) pfa_nil)) (pfa_cons (pf_tup (k := 0) (pfa_cons (pf_neg (pf_ix (pf_var 1) pf_int)) (pfa_cons (pf_ix (pf_var 1) pf_int) pfa_nil))) pfa_nil)))))) (fun ds d _ h => h), ?_⟩
  intro xs b h100
  have z2 : 2 ≤ sizeLine := sz (by decide)
  have zl : xs.length < sizeLine := Nat.lt_of_lt_of_le (show xs.length < 1000 by omega) (sz (by decide))
  have ei : itemsD (frsD xs) = some (xs.map frD) := rfl
  have ec : compL (aName 0) tYesF (fTup (fCons (L3.f1 negD (L3.f2 ixD (fVar 0) (fC (.int 0)))) (fCons (L3.f2 ixD (fVar 0) (fC (.int 1))) fNil))) [none] (xs.map frD) = some ((xs.map ng).map frD) := by
    refine compL_all _ _ (by rw [List.length_map, List.length_map, List.length_map]) fun i d o h1 h2 => ?_
    rw [List.getElem?_map] at h1 h2
    rw [List.getElem?_map] at h2
    cases hp : xs[i]? with
    | none => rw [hp] at h1; cases h1
    | some x =>
      rw [hp] at h1 h2
      cases h1
      cases h2
      refine ⟨[(0, frD x)], rfl, ?_⟩
      simp! [atI2_0, atI2_1, z2, ng]
  have ef : ∀ zs : List (Int × Int), Dat.tuple (zs.map frD) = frsD zs := fun _ => rfl
  simp! [frsD, List.length_map, zl, ec, atI2_0, atI2_1, z2, ng]
end
end
section
noncomputable section
variable {P : Program} {w : World} {K : Fg} {mg : Str → Option Value} {base : Heap} {f : Addr} {fd : FuncData}
def badP (p : Pr) : Prop := p.1.1 ≠ "=" ∧ p.2.1 < 0
instance (p : Pr) : Decidable (badP p) := inferInstanceAs (Decidable (_ ∧ _))
def sn (s : Bool) (p : Pr) : Bool := s || (decide (p.1.1 = "<") && decide (0 < p.2.1))
def rgt (k : Str) (xs : List (Int × Int)) (b : Int × Int) (l : List Pr) : Bool := if ∃ p ∈ l, badP p then false else
  (decide ((tog xs.length l).1 = xs) && (lt2 (tog xs.length l).2 b || (decide ((tog xs.length l).2 = b) && (decide (k = "<=") || l.foldl sn false)))) || (decide ((tog xs.length l).1 = List.replicate xs.length (0, 1)) && (decide ((tog xs.length l).2.1 < 0) || (decide ((tog xs.length l).2.1 = 0) && l.foldl sn false)))
theorem d_right (T : TX mg) {Ft : List Dat → Option Dat} (Dl_together : Dn P w K mg base 3 "_law_together" ["others", "weights", "many"] 3 Ft) (ht : ∀ (m N : Nat) (os : List Ot) (ws : List (Int × Int)), m ≤ 100 → Bud m (os.zip ws) N → N ≤ 3000 → Ft [.list (os.map oD), .list (ws.map frD), .int m] = some (.tuple [frsD (tog m (os.zip ws)).1, frD (tog m (os.zip ws)).2]))
    (Dl_below : Dn P w K mg base 3 "_law_below" ["a", "b"] 2 F_lbelow) (U : Fun K "_law_right" "_law_right" (top 26) f fd) (hm : mg "_law_right" = some (.ref f)) (hB : Binds K fd ["kind", "parts", "bound", "others", "weights"] []) :
    ∃ F, Dn P w K mg base 4 "_law_right" ["kind", "parts", "bound", "others", "weights"] 5 F ∧ ∀ (k : Str) (xs : List (Int × Int)) (b : Int × Int) (os : List Ot) (ws : List (Int × Int)), xs.length ≤ 100 → Sq 4000 b → Inp 0 xs.length os ws → F [.str k, frsD xs, frD b, .list (os.map oD), .list (ws.map frD)] = some (.bool (rgt k xs b (os.zip ws))) := by
  have nd : (["kind", "parts", "bound", "others", "weights", "strict", "other", "weight", "found", "sum_of", "less", "nought"] : List Str).Nodup := by decide +kernel
  refine ⟨_, dn_of U hm hB (N := ["kind", "parts", "bound", "others", "weights", "strict", "other", "weight", "found", "sum_of", "less", "nought"]) ⟨rfl, rfl, rfl, by decide +kernel, rfl, by decide +kernel, by decide +kernel⟩ rfl (fun cdv A outer s H E hr =>
    (psf_cons (psf_set 5 nd pf_bl)
    (psf_cons (psf_forI PassesOwn.never rfl (pif_zip T.zip (pfa_cons (pf_var 3) (pfa_cons (pf_var 4) pfa_nil))) (pgf_tup (n := 2) rfl (pgfs_cons (pgf_name 6 nd) (pgfs_cons (pgf_name 7 nd) pgfs_nil)))
    (psf_cons (psf_if (pft_w (pfw_and (pft_ne hr (pf_ix (pf_var 6) pf_int) pf_str) (pfw_and1 (pft_lt (pf_ix (pf_var 7) pf_int) pf_int)))) (psf_one (psf_ret pf_bl)) psf_nil)
    (psf_one (psf_set 5 nd (pf_or (pf_var 5) (pf_one (pf_and (pf_eq hr (pf_ix (pf_var 6) pf_int) pf_str) (pf_one (pf_gt (pf_ix (pf_var 7) pf_int) pf_int)))))))))
    (psf_cons (psf_asg (pf_fn Dl_together hr (pfa_cons (pf_var 3) (pfa_cons (pf_var 4) (pfa_cons (pf_len T.len (pfa_cons (pf_var 1) pfa_nil)) pfa_nil)))) (pgf_tup (n := 2) rfl (pgfs_cons (pgf_name 8 nd) (pgfs_cons (pgf_name 9 nd) pgfs_nil))))
    (psf_cons (psf_set 10 nd (pf_fn Dl_below hr (pfa_cons (pf_var 9) (pfa_cons (pf_var 2) pfa_nil))))
    (psf_cons (psf_if (pft_w (pfw_and (pft_eq hr (pf_var 8) (pf_var 1)) (pfw_and1 (pft_w (pfw_or (pft_truth (pf_var 10)) (pfw_or1 (pft_w (pfw_and (pft_eq hr (pf_var 9) (pf_var 2)) (pfw_and1 (pft_w (pfw_or (pft_eq hr (pf_var 0) pf_str) (pfw_or1 (pft_truth (pf_var 5)))))))))))))) (psf_one (psf_ret pf_bl)) psf_nil)
    (psf_cons (psf_set 11 nd (pf_tuple T.tuple (pfa_cons (pf_of_l (pfl_comp rfl (blk_plain (N' := ["part"])) (pf_var 1) (fun _ _ _ _ => (pgf_name 0 (show (["part"] : List Str).Nodup by decide +kernel))) (fun _ _ _ _ => ptsf_nil) (fun _ _ _ _ => (pf_tup (k := 0) (pfa_cons pf_int (pfa_cons pf_int pfa_nil)))) (tg_name rfl))) pfa_nil)))
    (psf_one (psf_ret (pf_and (pf_eq hr (pf_var 8) (pf_var 11)) (pf_one (pf_or (pf_lt (pf_ix (pf_var 9) pf_int) pf_int) (pf_one (pf_and (pf_eq hr (pf_ix (pf_var 9) pf_int) pf_int) (pf_one (pf_var 5)))))))))))))))) (fun ds d _ h => h), ?_⟩
  intro k xs b os ws h100 hb hi
  obtain ⟨N, hbud, hN⟩ := hi.bud
  have e2 := ht xs.length N os ws h100 hbud hN
  have hT := tog_sq hbud
  have e3 := L_lt hT.bd hb (by omega) (by decide)
  have e5 := eqD_frs (tog xs.length (os.zip ws)).1 xs
  have e6 := eqD_frs (tog xs.length (os.zip ws)).1 (List.replicate xs.length (0, 1))
  have e7 := eqD_fr2 (tog xs.length (os.zip ws)).2 b
  have z2 : 2 ≤ sizeLine := sz (by decide)
  have zl : xs.length < sizeLine := Nat.lt_of_lt_of_le (show xs.length < 1000 by omega) (sz (by decide))
  refine runF_rt ?_
  simp!
  rw [sSeq_nx (Γ' := [some (.imm (.str k)), some (.imm (frsD xs)), some (.imm (frD b)), some (.imm (.list (os.map oD))), some (.imm (.list (ws.map frD))), some (.imm (.bool false)), none, none, none, none, none, none]) (by simp! [if_true])]
  refine seq_two (forI_two (l := os.zip ws) (s := false) (r := .bool false) prD (fun (s : Bool) Γ => ∃ u v, Γ = [some (.imm (.str k)), some (.imm (frsD xs)), some (.imm (frD b)), some (.imm (.list (os.map oD))), some (.imm (.list (ws.map frD))), some (.imm (.bool s)), u, v, none, none, none, none]) sn badP (by rw [← zip_prs]; rfl) ⟨none, none, rfl⟩ ?_ ?_) ?_ ?_
  · rintro s ⟨o, x⟩ Γ hbad ⟨u, v, rfl⟩
    refine ⟨[(6, oD o), (7, frD x)], rfl, ?_⟩
    dsimp!
    refine ⟨[some (.imm (.str k)), some (.imm (frsD xs)), some (.imm (frD b)), some (.imm (.list (os.map oD))), some (.imm (.list (ws.map frD))), some (.imm (.bool (sn s (o, x)))), some (.imm (oD o)), some (.imm (frD x)), none, none, none, none], ?_, _, _, rfl⟩
    rw [sSeq_nx (Γ' := [some (.imm (.str k)), some (.imm (frsD xs)), some (.imm (frD b)), some (.imm (.list (os.map oD))), some (.imm (.list (ws.map frD))), some (.imm (.bool s)), some (.imm (oD o)), some (.imm (frD x)), none, none, none, none]) (by
      by_cases c1 : o.1 = "="
      · simp! [at30, neD_strD, eq_true c1]
      · have c2 : ¬ x.1 < 0 := fun z => hbad ⟨c1, z⟩
        simp! [at30, atI2_0, neD_strD, ltD_int, eq_false c1, eq_false c2])]
    refine sSet_eq (fOr_b (b := decide (o.1 = "<") && decide (0 < x.1)) (by simp! [if_true]) (fAnd_b (by simp! [at30, eqD_strD]) (by simp! [atI2_0, gtD_int])))
  · rintro s ⟨o, x⟩ Γ hbad ⟨u, v, rfl⟩
    refine ⟨[(6, oD o), (7, frD x)], rfl, ?_⟩
    dsimp!
    obtain ⟨c1, c2⟩ := hbad
    have c1' : ¬ o.1 = "=" := c1
    have c2' : x.1 < 0 := c2
    simp! [at30, atI2_0, neD_strD, ltD_int, eq_false c1', eq_true c2']
  · rintro Γ' hgood ⟨u, v, rfl⟩
    have hng : ¬ ∃ p ∈ os.zip ws, badP p := fun ⟨p, hp, hb⟩ => hgood p hp hb
    unfold rgt
    rw [if_neg hng]
    generalize tog xs.length (os.zip ws) = TT at *
    generalize (os.zip ws).foldl sn false = sB at *
    rw [sSeq_nx (Γ' := [some (.imm (.str k)), some (.imm (frsD xs)), some (.imm (frD b)), some (.imm (.list (os.map oD))), some (.imm (.list (ws.map frD))), some (.imm (.bool sB)), u, v, some (.imm (frsD TT.1)), some (.imm (frD TT.2)), none, none]) (by
      simp! [lenT, e2])]
    rw [sSeq_nx (Γ' := [some (.imm (.str k)), some (.imm (frsD xs)), some (.imm (frD b)), some (.imm (.list (os.map oD))), some (.imm (.list (ws.map frD))), some (.imm (.bool sB)), u, v, some (.imm (frsD TT.1)), some (.imm (frD TT.2)), some (.imm (.bool (lt2 TT.2 b))), none]) (by
      simp! [e3])]
    have tst := fAndT_b (ft := fTest (L3.f2 eqD (fVar 8) (fVar 1))) (gt := fOrT (fTru (fVar 10)) (fAndT (fTest (L3.f2 eqD (fVar 9) (fVar 2))) (fOrT (fTest (L3.f2 eqD (fVar 0) (fC (.str "<=")))) (fTru (fVar 5)))))
      (ρ := allV [some (.imm (.str k)), some (.imm (frsD xs)), some (.imm (frD b)), some (.imm (.list (os.map oD))), some (.imm (.list (ws.map frD))), some (.imm (.bool sB)), u, v, some (.imm (frsD TT.1)), some (.imm (frD TT.2)), some (.imm (.bool (lt2 TT.2 b))), none])
      (a := decide (TT.1 = xs)) (by simp! [e5]) (fOrT_b (a := lt2 TT.2 b) (by simp! [if_true]) (fAndT_b (a := decide (TT.2 = b)) (by simp! [e7]) (fOrT_b (a := decide (k = "<=")) (b := sB) (by simp! [eqD_strD]) (by simp! [if_true]))))
    cases q : (decide (TT.1 = xs) && (lt2 TT.2 b || (decide (TT.2 = b) && (decide (k = "<=") || sB)))) with
    | true =>
      rw [q] at tst
      rw [Bool.true_or]
      exact (sSeq_rt (sIf_t tst)).trans rfl
    | false =>
      rw [q] at tst
      rw [Bool.false_or]
      refine (sSeq_nx (sIf_f tst)).trans ?_
      have ec : compL (aName 0) tYesF (fTup (fCons (fC (.int 0)) (fCons (fC (.int 1)) fNil))) [none] (xs.map frD) = some ((List.replicate xs.length ((0, 1) : Int × Int)).map frD) := by
        refine compL_all _ _ (by rw [List.length_map, List.length_map, List.length_replicate]) fun i d o h1 h2 => ⟨[(0, d)], rfl, ?_⟩
        have : o = frD (0, 1) := by
          obtain ⟨x, hx, rfl⟩ := List.mem_map.mp (List.mem_of_getElem? h2)
          rw [(List.mem_replicate.mp hx).2]
        rw [this]
        simp! [z2]
      refine (sSeq_nx (Γ' := [some (.imm (.str k)), some (.imm (frsD xs)), some (.imm (frD b)), some (.imm (.list (os.map oD))), some (.imm (.list (ws.map frD))), some (.imm (.bool sB)), u, v, some (.imm (frsD TT.1)), some (.imm (frD TT.2)), some (.imm (.bool (lt2 TT.2 b))), some (.imm (frsD (List.replicate xs.length (0, 1))))]) (by
        simp! [frsD, List.length_map, zl, ec])).trans ?_
      refine sRet_eq (fAnd_b (by simp! [e6]) (fOr_b (by simp! [atI2_0, ltD_int]) (fAnd_b (by simp! [atI2_0, eqD_int]) (by simp! [if_true]))))
  · intro hbad
    unfold rgt
    rw [if_pos hbad]
theorem z01 {n : Nat} {x : Int × Int} (h : Sq n x) : x = (0, 1) ↔ x.1 = 0 := by
  constructor
  · intro e; rw [e]
  · intro e
    have c := h.cop
    rw [e, Int.gcd_zero_left] at c
    have p := h.pos
    exact Prod.ext e (by omega)
theorem lt01 (x : Int × Int) : lt2 x (0, 1) = decide (x.1 < 0) := by
  unfold lt2
  show decide (x.1 * 1 < 0 * x.2) = _
  rw [Int.mul_one, Int.zero_mul]
theorem alw_bad {l : List Pr} : alw l = true ↔ ¬ ∃ p ∈ l, badP p := by
  unfold alw
  rw [List.all_eq_true]
  constructor
  · rintro h ⟨p, hp, hb⟩
    have := h p hp
    rw [lt01, decide_eq_true hb.2, decide_eq_false hb.1] at this
    cases this
  · intro h p hp
    by_cases c : p.1.1 = "="
    · rw [decide_eq_true c, Bool.true_or]
    · have : ¬ p.2.1 < 0 := fun z => h ⟨p, hp, c, z⟩
      rw [lt01, decide_eq_false this, Bool.not_false, Bool.or_true]
theorem kf_sn : ∀ {l : List Pr} {κ : Str} {s : Bool}, (∀ p ∈ l, Sq 4000 p.2) → (∀ p ∈ l, ¬ badP p) → (κ = "<" ↔ s = true) → (l.foldl kf κ = "<" ↔ l.foldl sn s = true)
  | [], κ, s, _, _, h => h
  | p :: l, κ, s, hs, hb, h => by
    refine kf_sn (l := l) (fun q hq => hs q (List.mem_cons_of_mem _ hq)) (fun q hq => hb q (List.mem_cons_of_mem _ hq)) ?_
    have hp := hs p List.mem_cons_self
    have hbp := hb p List.mem_cons_self
    unfold kf sn
    by_cases c : p.1.1 = "<"
    · have cne : p.1.1 ≠ "=" := by rw [c]; decide +kernel
      have hge : ¬ p.2.1 < 0 := fun z => hbp ⟨cne, z⟩
      by_cases c2 : p.2 = (0, 1)
      · have c3 := (z01 hp).mp c2
        rw [if_neg (fun z => z.2 c2), decide_eq_true c, decide_eq_false (show ¬ 0 < p.2.1 by omega), Bool.and_false, Bool.or_false]
        exact h
      · have c3 : p.2.1 ≠ 0 := fun z => c2 ((z01 hp).mpr z)
        rw [if_pos ⟨c, c2⟩, decide_eq_true c, decide_eq_true (show 0 < p.2.1 by omega), Bool.and_true, Bool.or_true]
        exact ⟨fun _ => rfl, fun _ => rfl⟩
    · rw [if_neg (fun z => c z.1), decide_eq_false c, Bool.false_and, Bool.or_false]
      exact h
theorem hlf_rgt {k : Str} {xs : List (Int × Int)} {b : Int × Int} {os : List Ot} {ws : List (Int × Int)} (hk : k = "<=" ∨ k = "<") (hb : Sq 4000 b) (hi : Inp 0 xs.length os ws) : hlf k xs b (os.zip ws) = rgt k xs b (os.zip ws) := by
  obtain ⟨N, hbud, hN⟩ := hi.bud
  have hT := tog_sq hbud
  unfold hlf rgt
  by_cases c0 : ∃ p ∈ os.zip ws, badP p
  · have : ¬ alw (os.zip ws) = true := fun z => alw_bad.mp z c0
    rw [if_neg this, if_pos c0]
  · rw [if_pos (alw_bad.mpr c0), if_neg c0]
    have hs := kf_sn (l := os.zip ws) (κ := "<=") (s := false) (fun p hp => hi.sq p.2 (List.of_mem_zip hp).2) (fun p hp z => c0 ⟨p, hp, z⟩) ⟨fun z => absurd z (by decide +kernel), fun z => by cases z⟩
    generalize tog xs.length (os.zip ws) = TT at *
    have e1 : kept k b ((os.zip ws).foldl kf "<=") TT.2 = (lt2 TT.2 b || (decide (TT.2 = b) && (decide (k = "<=") || (os.zip ws).foldl sn false))) := by
      unfold kept
      by_cases e : TT.2 = b
      · have l0 : lt2 TT.2 b = false := by rw [e]; unfold lt2; exact decide_eq_false (by omega)
        rw [if_pos e, l0, decide_eq_true e, Bool.false_or, Bool.true_and]
        congr 1
        by_cases c : (os.zip ws).foldl sn false = true
        · rw [c, decide_eq_true (hs.mpr c)]
        · rw [Bool.not_eq_true] at c
          rw [c, decide_eq_false (fun z => by have := hs.mp z; rw [c] at this; cases this)]
      · rw [if_neg e, decide_eq_false e, Bool.false_and, Bool.or_false]
    have e2 : kept "<" (0, 1) ((os.zip ws).foldl kf "<=") TT.2 = (decide (TT.2.1 < 0) || (decide (TT.2.1 = 0) && (os.zip ws).foldl sn false)) := by
      unfold kept
      by_cases e : TT.2 = (0, 1)
      · have e' := (z01 hT.bd).mp e
        rw [if_pos e, decide_eq_false (show ¬ (("<" : Str) = "<=") by decide +kernel), Bool.false_or, decide_eq_false (show ¬ TT.2.1 < 0 by omega), decide_eq_true e', Bool.false_or, Bool.true_and]
        by_cases c : (os.zip ws).foldl sn false = true
        · rw [c, decide_eq_true (hs.mpr c)]
        · rw [Bool.not_eq_true] at c
          rw [c, decide_eq_false (fun z => by have := hs.mp z; rw [c] at this; cases this)]
      · have e' : ¬ TT.2.1 = 0 := fun z => e ((z01 hT.bd).mpr z)
        rw [if_neg e, decide_eq_false e', Bool.false_and, Bool.or_false, lt01]
    rw [e1, e2]
end
end
section
noncomputable section
variable {P : Program} {w : World} {K : Fg} {mg : Str → Option Value} {base : Heap} {f : Addr} {fd : FuncData}
theorem sq_small {n d : Int} {N : Nat} (h : 0 < d) (hn : n.natAbs < 2 ^ N) (hd : d.natAbs < 2 ^ N) : Sq N (Fr.num n d, Fr.den n d) := sq_mk (by omega) hn hd
theorem frac_small {r : R} (h : Rok r) : Sq 30 (frac r false).1 := by
  unfold frac
  split
  · have b := tk_bd (tr r 8) (m := 7) (by decide)
    exact ⟨show (0 : Int) < 1 by decide, Int.gcd_one_right _, by show (tk (tr r 8) 7 - 3).natAbs < _; omega, show (1 : Int).natAbs < 2 ^ 30 by decide⟩
  · split
    · exact sq01 30 (by decide)
    · rw [if_neg (fun z => by cases z.2)]
      have b1 := tk_bd (tr r 8) (m := 41) (by decide)
      have b2 := tk_bd (tr (tr r 8) 41) (m := 12) (by decide)
      exact sq_small (by omega) (by omega) (by omega)
theorem drF_small : ∀ (n : Nat) {r : R}, Rok r → ∀ x ∈ (drF n r false).1, Sq 30 x
  | 0, r, _, x, hx => by simp [drF] at hx
  | n + 1, r, h, x, hx => by
    rcases List.mem_cons.mp (show x ∈ (frac r false).1 :: (drF n (frac r false).2 false).1 from hx) with e | hx
    · rw [e]; exact frac_small h
    · exact drF_small n (frac_ok h).2 x hx
theorem line_ex {r : R} {m : Nat} (h : Rok r) (hm : m ≤ 9) : ∃ (o : Ot) (r' : R), F_line [.int r.1, .int r.2] [.int m, .bool false] = some (oD o, rD r') ∧ Rok r' ∧ OkO 30 m o := by
  have o1 := tr_ok (m := 5) h
  have e := F_line_ok (g := false) (m := (m : Int)) h (by omega) (by omega)
  obtain ⟨p1, p2, p3⟩ := drF_ok (m : Int).toNat (g := false) o1
  refine ⟨(kdAt (tk r 5), (lnP r m false).1, (lnB r m false).1), (lnB r m false).2, e, (frac_ok p2).2, (kd_ok (tk_bd r (m := 5) (by decide))).2, ?_, drF_small _ o1, frac_small p2⟩
  show (drF (m : Int).toNat (tr r 5) false).1.length = m
  rw [p3]; omega
theorem bud_all {m c d : Nat} : ∀ {os : List Ot} {ws : List (Int × Int)}, os.length = ws.length → (∀ o ∈ os, OkO c m o) → (∀ x ∈ ws, Sq d x) → Bud m (os.zip ws) (os.length * (d + c + 1))
  | [], [], _, _, _ => by simpa using Bud.nil
  | [], _ :: _, h, _, _ => by simp at h
  | _ :: _, [], h, _, _ => by simp at h
  | o :: os, x :: ws, h, ho, hx => by
    have := Bud.cons (ho o List.mem_cons_self) (hx x List.mem_cons_self) (bud_all (os := os) (ws := ws) (by simpa using h) (fun q hq => ho q (List.mem_cons_of_mem _ hq)) fun q hq => hx q (List.mem_cons_of_mem _ hq))
    rw [List.zip_cons_cons, List.length_cons, Nat.succ_mul]
    exact this
theorem eqD_nil : eqD (.list []) (.list []) = some (.bool true) := by
  unfold eqD
  rw [eqB_same rfl (fun b h => by cases h) (fun b h => by cases h)]; rfl
theorem eqD_cons (c : Int) (cs : List Int) (h : kqdOk 9 (.list ((c :: cs).map .int)) = true) : eqD (.list ((c :: cs).map .int)) (.list []) = some (.bool false) := by
  have e : eqB (.list ((c :: cs).map .int)) (.list []) = if kqdOk 9 (.list ((c :: cs).map .int)) = true ∧ kqdOk 9 (.list []) = true then some (decD (.list ((c :: cs).map .int)) (.list [])) else none := rfl
  unfold eqD
  rw [e, if_pos ⟨h, rfl⟩, decD_f (fun z => by cases z)]
  rfl
def rl0 (c : Int) : R := ((c.natAbs : Int), ((c.fmod 2147483647 + 1) * 742938285).fmod 2147483647)
theorem rl0_ok (c : Int) : Rok (rl0 c) := by
  have := fmod_bd ((c.fmod 2147483647 + 1) * 742938285) (b := 2147483647) (by decide)
  exact ⟨this.1, by show ((c.fmod 2147483647 + 1) * 742938285).fmod 2147483647 < _; omega⟩
abbrev F_reel : List Dat → Option (List Dat) := fun ds => match ds with | [.int c] => some (rD ((c.natAbs : Int), ((c.fmod 2147483647 + 1) * 742938285).fmod 2147483647)) | _ => none
theorem F_reel_ok (c : Int) : F_reel [.int c] = some [.int (rl0 c).1, .int (rl0 c).2] := rfl
def F_law : List Dat → Option Dat := open Classical in fun ds => if ∃ ns : List Int, ds = [.list (ns.map .int)] ∧ ns.length ≤ 63 then some (.bool true) else none
theorem ok_list (cs : List Int) (h : cs.length ≤ 63) : kqdOk 9 (.list (cs.map .int)) = true := by
  show (cs.map Dat.int).all (kqdOk 8) = true
  rw [List.all_map, List.all_eq_true]
  exact fun x _ => rfl
theorem turn_of {gt : Dat → Option Asg} {gb : Gam → Option Fl} {d : Dat} {as : Asg} {Γ : Gam} {I : Gam → Prop} (h : gt d = some as) (h2 : ∃ Γ', gb (setG Γ as) = some (.nx Γ') ∧ I Γ') : ∃ as Γ', gt d = some as ∧ gb (setG Γ as) = some (.nx Γ') ∧ I Γ' := ⟨as, h2.choose, h, h2.choose_spec⟩
end
end
section
theorem rd_self {n : Nat} {x : Int × Int} {N D : Int} (h : Sq n x) (hD : D ≠ 0) (e : x.1 * D = x.2 * N) : rd2 N D = x := by
  obtain ⟨a, b⟩ := Fr.uniq hD h.pos h.cop e
  exact Prod.ext a b
theorem pl_zero {n : Nat} {x : Int × Int} (h : Sq n x) : pl x (0, 1) = x := rd_self h (by have := h.pos; show x.2 * 1 ≠ 0; omega) (by show x.1 * (x.2 * 1) = x.2 * (x.1 * 1 + 0 * x.2); grind)
theorem tog_app (m : Nat) (l : List Pr) (p : Pr) : tog m (l ++ [p]) = stp (tog m l) p := by unfold tog; rw [List.foldl_append]; rfl
def lo (o : Ot) : Ot := ("<=", o.2)
section
variable {k : Str} {xs ys : List (Int × Int)} {b c : Int × Int} {l : List Pr} {m : Nat}
theorem hlf_yes (hl : xs.length = m) (ha : alw l = true) (ht : tog m l = (xs, b)) (h : kept k c (l.foldl kf "<=") b = true) : hlf k xs c l = true := by
  unfold hlf
  rw [if_pos ha, hl, ht, decide_eq_true rfl, h]; rfl
end
theorem kept_le (b : Int × Int) (kd : Str) : kept "<=" b kd b = true := by unfold kept; rw [if_pos rfl, decide_eq_true rfl]; rfl
end
section
noncomputable section
variable {P : Program} {w : World} {K : Fg} {mg : Str → Option Value} {base : Heap} {f : Addr} {fd : FuncData}
theorem Sq.ng {n : Nat} {x : Int × Int} (h : Sq n x) : Sq n (ng x) := ⟨h.pos, by show Int.gcd (-x.1) x.2 = 1; rw [Int.neg_gcd]; exact h.cop, by show (-x.1).natAbs < _; rw [Int.natAbs_neg]; exact h.ln, h.ld⟩
theorem ng_ng (x : Int × Int) : ng (ng x) = x := Prod.ext (Int.neg_neg x.1) rfl
theorem rd_neg {N D : Int} (h : D ≠ 0) : rd2 (-N) D = ng (rd2 N D) := by
  have hc := Fr.cross N D
  obtain ⟨a, b⟩ := Fr.uniq (p := -(Fr.num N D)) (q := Fr.den N D) (n := -N) h (Fr.den_pos h) (by rw [Int.neg_gcd]; exact Fr.cop h) (by rw [Int.neg_mul, hc, Int.mul_neg])
  exact Prod.ext a b
theorem ng_pl {n m : Nat} {x y : Int × Int} (hx : Sq n x) (hy : Sq m y) : ng (pl x y) = pl (ng x) (ng y) := by
  have h := Int.mul_ne_zero (Int.ne_of_gt hx.pos) (Int.ne_of_gt hy.pos)
  show ng (rd2 (x.1 * y.2 + y.1 * x.2) (x.2 * y.2)) = rd2 (-x.1 * y.2 + -y.1 * x.2) (x.2 * y.2)
  rw [← rd_neg h]
  congr 1
  rw [Int.neg_add, Int.neg_mul, Int.neg_mul]
theorem tm_ng {n m : Nat} {x y : Int × Int} (hx : Sq n x) (hy : Sq m y) : tm x (ng y) = ng (tm x y) := by
  have h := Int.mul_ne_zero (Int.ne_of_gt hx.pos) (Int.ne_of_gt hy.pos)
  show rd2 (x.1 * -y.1) (x.2 * y.2) = ng (rd2 (x.1 * y.1) (x.2 * y.2))
  rw [← rd_neg h, Int.mul_neg]
theorem ng_tm {n m : Nat} {x y : Int × Int} (hx : Sq n x) (hy : Sq m y) : tm (ng x) y = ng (tm x y) := by
  have h := Int.mul_ne_zero (Int.ne_of_gt hx.pos) (Int.ne_of_gt hy.pos)
  show rd2 (-x.1 * y.1) (x.2 * y.2) = ng (rd2 (x.1 * y.1) (x.2 * y.2))
  rw [← rd_neg h, Int.neg_mul]
theorem zero_tm {n : Nat} {y : Int × Int} (hy : Sq n y) : tm (0, 1) y = (0, 1) := rd_self (sq01 1 (by decide)) (by have := hy.pos; show 1 * y.2 ≠ 0; omega) (by show (0 : Int) * (1 * y.2) = 1 * (0 * y.1); grind)
theorem F_mi {n m : Nat} {x y : Int × Int} (a : Sq n x) (b : Sq m y) (hn : n ≤ 4000) (hm : m ≤ 4000) : F_minus [frD x, frD y] = some (mk (x.1 * y.2 - y.1 * x.2) (x.2 * y.2)) := F_two_ok (a.gd hn) (b.gd hm)
theorem F_mi0 {n : Nat} {y : Int × Int} (b : Sq n y) (hn : n ≤ 4000) : F_minus [frD (0, 1), frD y] = some (frD (ng y)) := by
  rw [F_mi (sq01 1 (by decide)) b (by decide) hn]
  have h : rd2 ((0 : Int) * y.2 - y.1 * 1) (1 * y.2) = ng y := rd_self b.ng (by have := b.pos; omega) (by show -y.1 * (1 * y.2) = y.2 * (0 * y.2 - y.1 * 1); grind)
  show some (frD (rd2 ((0 : Int) * y.2 - y.1 * 1) (1 * y.2))) = _
  rw [h]
theorem d_minus (T : TX mg) (Dmake : Dn P w K mg base 2 "make" ["n", "d"] 2 F_make) (U : FnAt K mg "minus" (top 4) ["a", "b"]) : Dn P w K mg base 3 "minus" ["a", "b"] 2 F_minus := by
  obtain ⟨f, fd, U, hm, hB⟩ := U.ex
  have nd : (["a", "b"] : List Str).Nodup := by decide +kernel
  refine qdn_of U hm hB (N := ["a", "b"]) ⟨rfl, rfl, rfl, by decide +kernel, rfl, by decide +kernel, by decide +kernel⟩ rfl (fun cdv A outer s H E hr => (qpsf_one (qpsf_ret (qpf_fn Dmake hr (qpfa_cons (qpf_sub (qpf_mul (qpf_ix (qpf_var 0) qpf_int) (qpf_ix (qpf_var 1) qpf_int)) (qpf_mul (qpf_ix (qpf_var 1) qpf_int) (qpf_ix (qpf_var 0) qpf_int))) (qpfa_cons (qpf_mul (qpf_ix (qpf_var 0) qpf_int) (qpf_ix (qpf_var 1) qpf_int)) qpfa_nil (hs := star_bin)) (hs := star_bin)))))) ?_
  intro ds d hl hF
  obtain ⟨p, q, r, s, rfl, g1, g2, e⟩ := two_inv hF
  have z := Int.mul_ne_zero (Int.ne_of_gt g1.pos) (Int.ne_of_gt g2.pos)
  cases e
  have m1 := mulM g1.mp g2.mq
  have m2 := mulM g2.mp g1.mq
  have m3 := mulM g1.mq g2.mq
  have m4 := make_ok (n := p * s - r * q) z (g1.mq.mul g2.mq)
  simp! [fr, atI2_0, atI2_1, subD_int, m1, m2, m3, m4]
theorem d_halves (T : TX mg) {az : Addr} (Z : TZ K mg az) (Dminus : Dn P w K mg base 3 "minus" ["a", "b"] 2 F_minus) (U : FnAt K mg "halves" (top 9) ["line"]) :
    ∃ F, Dn P w K mg base 4 "halves" ["line"] 1 F ∧ ∀ (k : Str) (xs : List (Int × Int)) (b : Int × Int), xs.length ≤ 100 → (∀ x ∈ xs, Sq 4000 x) → Sq 4000 b → F [lineD k xs b] = some (.list [lineD "<=" xs b, lineD "<=" (xs.map ng) (ng b)]) := by
  refine ⟨_, qdnA ["line", "parts"] U fun nd _ _ _ _ _ _ _ hr => (qpsf_cons (qpsf_set 1 nd (qpf_tuple T.tuple (qpfa_cons (qpf_of_l (qpfl_comp rfl (blk_plain (N' := ["part"])) (qpf_ix (qpf_var 0) qpf_int) (fun _ _ _ _ => (qpgf_name 0 (show (["part"] : List Str).Nodup by decide +kernel))) (fun _ _ _ _ => qptsf_nil) (fun _ _ _ _ => (qpf_fn Dminus hr (qpfa_cons (qpf_globT Z.mg Z.tup) (qpfa_cons (qpf_var 0) qpfa_nil)))) (tg_name rfl))) qpfa_nil)))
    (qpsf_one (qpsf_ret (qpf_lst (qpfa_cons (qpf_tup (k := 0) (qpfa_cons qpf_str (qpfa_cons (qpf_ix (qpf_var 0) qpf_int) (qpfa_cons (qpf_ix (qpf_var 0) qpf_int) qpfa_nil (hs := star_sub)) (hs := star_sub)))) (qpfa_cons (qpf_tup (k := 0) (qpfa_cons qpf_str (qpfa_cons (qpf_var 1) (qpfa_cons (qpf_fn Dminus hr (qpfa_cons (qpf_globT Z.mg Z.tup) (qpfa_cons (qpf_ix (qpf_var 0) qpf_int) qpfa_nil (hs := star_sub)))) qpfa_nil (hs := star_call))))) qpfa_nil (hs := star_tup)) (hs := star_tup)))))), ?_⟩
  intro k xs b hl hx hb
  have z2 : 2 ≤ sizeLine := sz (by decide)
  have z3 : 3 ≤ sizeLine := sz (by decide)
  refine runF_rt ?_
  show sSeq _ _ [some (.imm (lineD k xs b)), none] = _
  refine (sSeq_nx (Γ' := [some (.imm (lineD k xs b)), some (.imm (frsD (xs.map ng)))]) (sSet_eq (d := frsD (xs.map ng)) (call1 (d := .list ((xs.map ng).map frD)) (fcomp_ok (d := frsD xs) rfl rfl (by rw [List.length_map]; exact small1000 (by omega)) ?_) rfl))).trans ?_
  · rw [List.map_map]
    refine compM frD _ xs fun x h => ⟨_, rfl, ?_⟩
    have e := F_mi0 (hx x h) (by decide)
    show fFn 2 F_minus _ _ = _
    simp! [e, Function.comp]
  · have e := F_mi0 hb (by decide)
    dsimp! [ixD, at30, at31, at32, e, z2, z3]
def hR (xs : List (Int × Int)) (b : Int × Int) (os : List Ot) (ws : List (Int × Int)) : Bool := if os.length = ws.length then hlf "<=" xs b (os.zip ws) else false
structure Gi (m : Nat) (xs : List (Int × Int)) (b : Int × Int) (os : List Ot) (ws : List (Int × Int)) : Prop where
  len : xs.length = m
  le : m ≤ 9
  sx : ∀ x ∈ xs, Sq 4000 x
  sb : Sq 4000 b
  ol : os.length ≤ 20
  ok : ∀ o ∈ os, OkO 30 m o
  sw : ∀ x ∈ ws, Sq 10 x
theorem Gi.inp {m : Nat} {xs : List (Int × Int)} {b : Int × Int} {os : List Ot} {ws : List (Int × Int)} (h : Gi m xs b os ws) (hl : os.length = ws.length) : Inp 0 xs.length os ws := by
  have := h.ol
  exact ⟨hl, by omega, fun x hx => (h.sw x hx).up (by decide), _, by rw [h.len]; exact bud_all hl h.ok h.sw, by omega⟩
theorem Gi.ng {m : Nat} {xs : List (Int × Int)} {b : Int × Int} {os : List Ot} {ws ws' : List (Int × Int)} (h : Gi m xs b os ws) (h' : ∀ x ∈ ws', Sq 10 x) : Gi m (xs.map ng) (ng b) os ws' :=
  ⟨by rw [List.length_map]; exact h.len, h.le, fun x hx => by obtain ⟨y, hy, rfl⟩ := List.mem_map.mp hx; exact (h.sx y hy).ng, h.sb.ng, h.ol, h.ok, h'⟩
abbrev HfS (F : List Dat → Option Dat) : Prop := (∀ (k : Str) (xs : List (Int × Int)) (b : Int × Int) (os : List Ot) (ws : List (Int × Int)), xs.length ≤ 100 → Sq 4000 b → Inp 0 xs.length os ws → F [lineD k xs b, .list (os.map oD), .list (ws.map frD)] = some (.bool (hlf k xs b (os.zip ws)))) ∧ ∀ (k : Str) (xs : List (Int × Int)) (b : Int × Int) (os : List Ot) (ws : List (Int × Int)), os.length ≠ ws.length → F [lineD k xs b, .list (os.map oD), .list (ws.map frD)] = some (.bool false)
theorem HfS.at {F : List Dat → Option Dat} (h : HfS F) {m : Nat} {xs : List (Int × Int)} {b : Int × Int} {os : List Ot} {ws : List (Int × Int)} (g : Gi m xs b os ws) : F [lineD "<=" xs b, .list (os.map oD), .list (ws.map frD)] = some (.bool (hR xs b os ws)) := by
  unfold hR
  have := g.le
  have := g.len
  by_cases hl : os.length = ws.length
  · rw [if_pos hl]
    exact h.1 _ _ _ _ _ (by omega) g.sb (g.inp hl)
  · rw [if_neg hl]
    exact h.2 _ _ _ _ _ hl
theorem d_isr2 (T : TX mg) {Fh Fv : List Dat → Option Dat} (Dis_half_right : Dn P w K mg base 5 "is_half_right" ["line", "others", "paper"] 3 Fh) (hh : HfS Fh) (Dhalves : Dn P w K mg base 5 "halves" ["line"] 1 Fv) (hv : ∀ (k : Str) (xs : List (Int × Int)) (b : Int × Int), xs.length ≤ 100 → (∀ x ∈ xs, Sq 4000 x) → Sq 4000 b → Fv [lineD k xs b] = some (.list [lineD "<=" xs b, lineD "<=" (xs.map ng) (ng b)])) (U : FnAt K mg "is_right" (top 14) ["line", "others", "paper"]) :
    ∃ F, Dn P w K mg base 6 "is_right" ["line", "others", "paper"] 3 F ∧ ∀ (m : Nat) (xs : List (Int × Int)) (b : Int × Int) (os : List Ot) (ws vs : List (Int × Int)), Gi m xs b os ws → (∀ x ∈ vs, Sq 10 x) → F [lineD "=" xs b, .list (os.map oD), .tuple [.list (ws.map frD), .list (vs.map frD)]] = some (.bool (hR xs b os ws && hR (xs.map ng) (ng b) os vs)) := by
  refine ⟨_, qdnA ["line", "others", "paper"] U fun nd _ _ _ _ _ _ _ hr => (qpsf_cons (qpsf_if (qpft_ne hr (qpf_ix (qpf_var 0) qpf_int) qpf_str) (qpsf_one (qpsf_ret (qpf_fn Dis_half_right hr (qpfa_cons (qpf_var 0) (qpfa_cons (qpf_var 1) (qpfa_cons (qpf_var 2) qpfa_nil)))))) qpsf_nil)
    (qpsf_cons (qpsf_if (qpft_w (qpfw_or (qpft_not (qpft_truth (qpf_isinst "tuple" T.isinstance T.tuple (qpf_var 2)))) (qpfw_or1 (qpft_ne hr (qpf_len T.len (qpfa_cons (qpf_var 2) qpfa_nil)) qpf_int)))) (qpsf_one (qpsf_ret qpf_bl)) qpsf_nil)
    (qpsf_one (qpsf_ret (qpf_all rfl T.all (qpfa_cons (qpf_of_l (qpfl_compI rfl (blk_cap (tn := ["half", "weights"]) (fv := ["others"]) (js := [1]) rfl (by decide +kernel) (by decide +kernel) rfl (by decide +kernel) (by decide +kernel) rfl
      (fun x hx => by ((have hx2 : x = "others" := (by simpa using hx)); (rcases hx2 with rfl <;> exact ⟨_, rfl⟩)))
      (fun p hp => by ((have hp2 : p = (("others" : Str), (1 : Nat)) := (by simpa using hp)); (rcases hp2 with rfl <;> exact ⟨rfl, .inr (.inl rfl), .inl rfl, fun z => by cases z⟩)))) (qpif_zip T.zip (qpfa_cons (qpf_fn Dhalves hr (qpfa_cons (qpf_var 0) qpfa_nil)) (qpfa_cons (qpf_var 2) qpfa_nil) (hs := star_call))) (fun _ _ _ _ => (qpgf_tup (n := 2) rfl (qpgfs_cons (qpgf_name 0 (show (["half", "weights", "others"] : List Str).Nodup by decide +kernel)) (qpgfs_cons (qpgf_name 1 (show (["half", "weights", "others"] : List Str).Nodup by decide +kernel)) qpgfs_nil)))) (fun _ _ _ _ => qptsf_nil) (fun _ _ _ _ => (qpf_fn Dis_half_right hr (qpfa_cons (qpf_var 0) (qpfa_cons (qpf_var 2) (qpfa_cons (qpf_var 1) qpfa_nil))))) (tg_two rfl rfl))) qpfa_nil)))))), ?_⟩
  intro m xs b os ws vs g hvs
  have e1 := hh.at g
  have e2 := hh.at (g.ng hvs)
  have := g.le
  have := g.len
  have e3 := hv "=" xs b (by omega) g.sx g.sb
  have hne : neD (.str (Str.ofString "=")) (.str (Str.ofString "=")) = some (.bool false) := neD_str _
  have hle : lenD [.tuple [.list (ws.map frD), .list (vs.map frD)]] = some (.int 2) := rfl
  have hz : (2 : Nat) < sizeLine := small1000 (by decide)
  have hi : isD "tuple" (.tuple [.list (ws.map frD), .list (vs.map frD)]) = some (.bool true) := rfl
  generalize hR xs b os ws = r1 at e1
  generalize hR (xs.map ng) (ng b) os vs = r2 at e2
  have ha : allD [.list [.bool r1, .bool r2]] = some (.bool (r1 && r2)) := by cases r1 <;> cases r2 <;> rfl
  generalize lineD "<=" xs b = l1 at *
  generalize lineD "<=" (xs.map ng) (ng b) = l2 at *
  generalize Dat.list (os.map oD) = dos at *
  generalize Dat.list (ws.map frD) = dws at *
  generalize Dat.list (vs.map frD) = dvs at *
  have e4 : ∀ d, atI [.str (Str.ofString "="), frsD xs, frD b] 0 = some d → d = .str (Str.ofString "=") := fun d h => by cases h; rfl
  dsimp! [ixD, at30, hne, hi, hle, neD_int, e3, fCompI, hz, tYesF, e1, e2, ha]
end
end
section
noncomputable section
variable {P : Program} {w : World} {K : Fg} {mg : Str → Option Value} {base : Heap} {f : Addr} {fd : FuncData}
theorem d_top (T : TX mg) (U : FnAt K mg "_law_top" (top 29) ["number"]) : ∃ F, Dn P w K mg base 1 "_law_top" ["number"] 1 F ∧ ∀ x : Int × Int, F [frD x] = some (.int x.1) := by
  refine ⟨_, qdnA ["number"] U fun nd _ _ _ _ _ _ _ hr => (qpsf_one (qpsf_ret (qpf_ix (qpf_var 0) qpf_int))), ?_⟩
  intro x
  dsimp! [ixD, atI2_0]
abbrev RiS (F : List Dat → Option Dat) : Prop := ∀ (k : Str) (xs : List (Int × Int)) (b : Int × Int) (os : List Ot) (ws : List (Int × Int)), xs.length ≤ 100 → Sq 4000 b → Inp 0 xs.length os ws → F [.str k, frsD xs, frD b, .list (os.map oD), .list (ws.map frD)] = some (.bool (rgt k xs b (os.zip ws)))
abbrev TuS (F : List Dat → Option Dat) : Prop := ∀ (xs : List (Int × Int)) (b : Int × Int), xs.length ≤ 100 → F [frsD xs, frD b] = some (.tuple [frsD (xs.map ng), frD (ng b)])
abbrev BoS (F : List Dat → Option Dat) : Prop := ∀ (m : Nat) (xs : List (Int × Int)) (b : Int × Int) (os : List Ot) (ws vs : List (Int × Int)), Gi m xs b os ws → (∀ x ∈ vs, Sq 10 x) → F [lineD "=" xs b, .list (os.map oD), .tuple [.list (ws.map frD), .list (vs.map frD)]] = some (.bool (hR xs b os ws && hR (xs.map ng) (ng b) os vs))
theorem lenW {α : Type} (g : α → Dat) (xs : List α) : lenD [.list (xs.map g)] = some (.int xs.length) := by show some (Dat.int ((xs.map g).length : Nat)) = _; rw [List.length_map]
theorem d_both (T : TX mg) {Fr Ft : List Dat → Option Dat} (Dl_right : Dn P w K mg base 4 "_law_right" ["kind", "parts", "bound", "others", "weights"] 5 Fr) (hr : RiS Fr) (Dl_turned : Dn P w K mg base 4 "_law_turned" ["parts", "bound"] 2 Ft) (ht : TuS Ft) (U : FnAt K mg "_law_both" (top 33) ["line", "others", "papers"]) :
    ∃ F, Dn P w K mg base 5 "_law_both" ["line", "others", "papers"] 3 F ∧ BoS F := by
  have hr' := hr
  clear hr
  refine ⟨_, qdnA ["line", "others", "papers", "less", "more", "paper", "first"] U fun nd _ _ _ _ _ _ _ hr => (qpsf_cons (qpsf_asg (qpf_fn Dl_turned hr (qpfa_cons (qpf_ix (qpf_var 0) qpf_int) (qpfa_cons (qpf_ix (qpf_var 0) qpf_int) qpfa_nil (hs := star_sub)) (hs := star_sub))) (qpgf_tup (n := 2) rfl (qpgfs_cons (qpgf_name 3 nd) (qpgfs_cons (qpgf_name 4 nd) qpgfs_nil))))
    (qpsf_cons (qpsf_for PassesOwn.never rfl (qpf_var 2) (qpgf_name 5 nd)
    (qpsf_one (qpsf_if (qpft_ne hr (qpf_len T.len (qpfa_cons (qpf_var 5) qpfa_nil)) (qpf_len T.len (qpfa_cons (qpf_var 1) qpfa_nil))) (qpsf_one (qpsf_ret qpf_bl)) qpsf_nil)))
    (qpsf_cons (qpsf_set 6 nd (qpf_fn Dl_right hr (qpfa_cons qpf_str (qpfa_cons (qpf_ix (qpf_var 0) qpf_int) (qpfa_cons (qpf_ix (qpf_var 0) qpf_int) (qpfa_cons (qpf_var 1) (qpfa_cons (qpf_ix (qpf_var 2) qpf_int) qpfa_nil (hs := star_sub))) (hs := star_sub)) (hs := star_sub)))))
    (qpsf_one (qpsf_ret (qpf_and (qpf_var 6) (qpf_one (qpf_fn Dl_right hr (qpfa_cons qpf_str (qpfa_cons (qpf_var 3) (qpfa_cons (qpf_var 4) (qpfa_cons (qpf_var 1) (qpfa_cons (qpf_ix (qpf_var 2) qpf_int) qpfa_nil (hs := star_sub)))))))))))))), ?_⟩
  intro m xs b os ws vs g hvs
  have g2 := g.ng hvs
  have := g.le
  have := g.len
  have et := ht xs b (by omega)
  have hlo := lenW oD os
  have lw := lenW frD ws
  have lv := lenW frD vs
  refine runF_rt ?_
  show sSeq _ _ [some (.imm (lineD "=" xs b)), some (.imm (.list (os.map oD))), some (.imm (.tuple [.list (ws.map frD), .list (vs.map frD)])), none, none, none, none] = _
  refine (sSeq_nx (Γ' := [some (.imm (lineD "=" xs b)), some (.imm (.list (os.map oD))), some (.imm (.tuple [.list (ws.map frD), .list (vs.map frD)])), some (.imm (frsD (xs.map ng))), some (.imm (frD (ng b))), none, none]) (sAsg_eq (d := .tuple [frsD (xs.map ng), frD (ng b)]) (as := [(3, frsD (xs.map ng)), (4, frD (ng b))]) ?_ rfl)).trans ?_
  · dsimp! [ixD, at31, at32, et]
  have ex : hR xs b os ws = if os.length = ws.length then rgt "<=" xs b (os.zip ws) else false := by
    unfold hR
    by_cases hl : os.length = ws.length
    · rw [if_pos hl, if_pos hl]; exact hlf_rgt (.inl rfl) g.sb (g.inp hl)
    · rw [if_neg hl, if_neg hl]
  have ey : hR (xs.map ng) (ng b) os vs = if os.length = vs.length then rgt "<=" (xs.map ng) (ng b) (os.zip vs) else false := by
    unfold hR
    by_cases hl : os.length = vs.length
    · rw [if_pos hl, if_pos hl]; exact hlf_rgt (.inl rfl) g2.sb (g2.inp hl)
    · rw [if_neg hl, if_neg hl]
  rw [ex, ey]
  by_cases c1 : os.length = ws.length
  · have e1 := hr' "<=" xs b os ws (by omega) g.sb (g.inp c1)
    rw [if_pos c1]
    by_cases c2 : os.length = vs.length
    · have e2 := hr' "<=" (xs.map ng) (ng b) os vs (by rw [List.length_map]; omega) g2.sb (g2.inp c2)
      rw [if_pos c2]
      have n1 : (ws.length : Int) = os.length := by omega
      have n2 : (vs.length : Int) = os.length := by omega
      generalize rgt "<=" xs b (os.zip ws) = r1 at e1
      generalize rgt "<=" (xs.map ng) (ng b) (os.zip vs) = r2 at e2
      generalize Dat.list (os.map oD) = dos at *
      generalize Dat.list (ws.map frD) = dws at *
      generalize Dat.list (vs.map frD) = dvs at *
      generalize frsD (xs.map ng) = f1 at *
      generalize ng b = nb at *
      have key : ∀ g2' : Gam → Option Fl, sSeq (sFor (aName 5) (sIf (fTest (L3.f2 neD (fCall lenD (fCons (fVar 5) fNil)) (fCall lenD (fCons (fVar 1) fNil)))) (sRet (fC (.bool false))) sSkip) (fVar 2)) g2' [some (.imm (lineD "=" xs b)), some (.imm (dos)), some (.imm (.tuple [dws, dvs])), some (.imm (f1)), some (.imm (frD nb)), none, none] = g2' [some (.imm (lineD "=" xs b)), some (.imm (dos)), some (.imm (.tuple [dws, dvs])), some (.imm (f1)), some (.imm (frD nb)), some (.imm (dvs)), none] := by
        intro g2'
        refine sSeq_nx ?_
        rw [sFor_items (d := .tuple [dws, dvs]) (ds := [dws, dvs]) rfl rfl]
        rw [forL_nx (as := [(5, dws)]) rfl (Γ' := [some (.imm (lineD "=" xs b)), some (.imm (dos)), some (.imm (.tuple [dws, dvs])), some (.imm (f1)), some (.imm (frD nb)), some (.imm (dws)), none]) ((sIf_f (by simp! [lw, hlo, neD_int, eq_true n1])).trans rfl)]
        rw [forL_nx (as := [(5, dvs)]) rfl (Γ' := [some (.imm (lineD "=" xs b)), some (.imm (dos)), some (.imm (.tuple [dws, dvs])), some (.imm (f1)), some (.imm (frD nb)), some (.imm (dvs)), none]) ((sIf_f (by simp! [lv, hlo, neD_int, eq_true n2])).trans rfl)]
        rfl
      refine (key _).trans ?_
      refine (sSeq_nx (Γ' := [some (.imm (lineD "=" xs b)), some (.imm (dos)), some (.imm (.tuple [dws, dvs])), some (.imm (f1)), some (.imm (frD nb)), some (.imm (dvs)), some (.imm (.bool r1))]) (by dsimp! [ixD, at31, at32, atI2_0, e1])).trans ?_
      exact sRet_eq (fAnd_b rfl (by dsimp! [ixD, atI2_1, e2]))
    · rw [if_neg c2, Bool.and_false]
      have n1 : (ws.length : Int) = os.length := by omega
      have n2 : ¬ (vs.length : Int) = os.length := by omega
      generalize Dat.list (os.map oD) = dos at *
      generalize Dat.list (ws.map frD) = dws at *
      generalize Dat.list (vs.map frD) = dvs at *
      generalize frsD (xs.map ng) = f1 at *
      generalize ng b = nb at *
      refine sSeq_rt ?_
      rw [sFor_items (d := .tuple [dws, dvs]) (ds := [dws, dvs]) rfl rfl]
      rw [forL_nx (as := [(5, dws)]) rfl (Γ' := [some (.imm (lineD "=" xs b)), some (.imm (dos)), some (.imm (.tuple [dws, dvs])), some (.imm (f1)), some (.imm (frD nb)), some (.imm (dws)), none]) ((sIf_f (by simp! [lw, hlo, neD_int, eq_true n1])).trans rfl)]
      exact forL_rt (as := [(5, dvs)]) rfl ((sIf_t (by simp! [lv, hlo, neD_int, eq_false n2])).trans (sRet_eq rfl))
  · rw [if_neg c1, Bool.false_and]
    have n1 : ¬ (ws.length : Int) = os.length := by omega
    generalize Dat.list (os.map oD) = dos at *
    generalize Dat.list (ws.map frD) = dws at *
    generalize Dat.list (vs.map frD) = dvs at *
    generalize frsD (xs.map ng) = f1 at *
    generalize ng b = nb at *
    refine sSeq_rt ?_
    rw [sFor_items (d := .tuple [dws, dvs]) (ds := [dws, dvs]) rfl rfl]
    exact forL_rt (as := [(5, dws)]) rfl ((sIf_t (by simp! [lw, hlo, neD_int, eq_false n1])).trans (sRet_eq rfl))
abbrev DuS (F : List Dat → Option Dat) : Prop := ∀ (m : Nat) (xs : List (Int × Int)) (b : Int × Int) (os : List Ot) (ws vs : List (Int × Int)), Gi m xs b os ws → (∀ x ∈ vs, Sq 10 x) → F [lineD "=" xs b, .list (os.map oD), .tuple [.list (ws.map frD), .list (vs.map frD)]] = some (.bool true)
theorem d_due (T : TX mg) {Fi Fb : List Dat → Option Dat} (Dis_right : Dn P w K mg base 6 "is_right" ["line", "others", "paper"] 3 Fi) (hi : BoS Fi) (Dl_both : Dn P w K mg base 6 "_law_both" ["line", "others", "papers"] 3 Fb) (hb : BoS Fb) (U : FnAt K mg "_law_is_as_due" (top 34) ["line", "others", "papers"]) :
    ∃ F, Dn P w K mg base 7 "_law_is_as_due" ["line", "others", "papers"] 3 F ∧ DuS F := by
  refine ⟨_, qdnA ["line", "others", "papers", "found"] U fun nd _ _ _ _ _ _ _ hr => (qpsf_cons (qpsf_set 3 nd (qpf_fn Dis_right hr (qpfa_cons (qpf_var 0) (qpfa_cons (qpf_of_l (qpfl_list T.list (qpfa_cons (qpf_var 1) qpfa_nil))) (qpfa_cons (qpf_tup (k := 0) (qpfa_cons (qpf_of_l (qpfl_list T.list (qpfa_cons (qpf_ix (qpf_var 2) qpf_int) qpfa_nil (hs := star_sub)))) (qpfa_cons (qpf_of_l (qpfl_list T.list (qpfa_cons (qpf_ix (qpf_var 2) qpf_int) qpfa_nil (hs := star_sub)))) qpfa_nil (hs := star_call)) (hs := star_call))) qpfa_nil (hs := star_tup)) (hs := star_call)))))
    (qpsf_one (qpsf_ret (qpf_and (qpf_isinst "bool" T.isinstance T.bool (qpf_var 3)) (qpf_one (qpf_eq hr (qpf_var 3) (qpf_fn Dl_both hr (qpfa_cons (qpf_var 0) (qpfa_cons (qpf_var 1) (qpfa_cons (qpf_var 2) qpfa_nil)))))))))), ?_⟩
  intro m xs b os ws vs g hvs
  have e1 := hi m xs b os ws vs g hvs
  have e2 := hb m xs b os ws vs g hvs
  have l1 : listD [.list (os.map oD)] = some (os.map oD) := rfl
  have l2 : listD [.list (ws.map frD)] = some (ws.map frD) := rfl
  have l3 : listD [.list (vs.map frD)] = some (vs.map frD) := rfl
  have z2 : 2 ≤ sizeLine := sz (by decide)
  generalize (hR xs b os ws && hR (xs.map ng) (ng b) os vs) = r at e1 e2
  have i1 : isD "bool" (.bool r) = some (.bool true) := rfl
  have q1 : eqD (.bool r) (.bool r) = some (.bool true) := by rw [eqD_bool]; simp
  generalize lineD "=" xs b = dl at *
  refine runF_rt ?_
  show sSeq _ _ [some (.imm (dl)), some (.imm (.list (os.map oD))), some (.imm (.tuple [.list (ws.map frD), .list (vs.map frD)])), none] = _
  generalize os.map oD = dos at *
  generalize ws.map frD = dws at *
  generalize vs.map frD = dvs at *
  refine (sSeq_nx (Γ' := [some (.imm (dl)), some (.imm (.list dos)), some (.imm (.tuple [.list dws, .list dvs])), some (.imm (.bool r))]) (by dsimp! [ixD, atI2_0, atI2_1, l1, l2, l3, z2, e1])).trans ?_
  exact sRet_eq (fAnd_b (a := true) (b := true) (by simp! [i1]) (by simp! [e2, q1]))
end
end
section
noncomputable section
variable {P : Program} {w : World} {K : Fg} {mg : Str → Option Value} {base : Heap} {f : Addr} {fd : FuncData}
def ngA (a : Ac) : Ac := (a.1.map ng, ng a.2)
def flip (o : Ot) : Ot := (o.1, o.2.1.map ng, ng o.2.2)
theorem flip_flip (o : Ot) : flip (flip o) = o := by
  obtain ⟨k, xs, b⟩ := o
  show (k, (xs.map ng).map ng, ng (ng b)) = (k, xs, b)
  rw [ng_ng, List.map_map]
  have : xs.map (ng ∘ ng) = xs := by
    conv => rhs; rw [← List.map_id xs]
    exact List.map_congr_left fun x _ => ng_ng x
  rw [this]
theorem flip_ok {c m : Nat} {o : Ot} (h : OkO c m o) : OkO c m (flip o) := ⟨h.kd, by show (o.2.1.map ng).length = m; rw [List.length_map]; exact h.len, fun x hx => by obtain ⟨y, hy, rfl⟩ := List.mem_map.mp hx; exact (h.sq y hy).ng, h.bd.ng⟩
theorem zw_map {g g' : Int × Int → Int × Int → Int × Int} : ∀ (xs ys : List (Int × Int)), (∀ x ∈ xs, ∀ y ∈ ys, g' (ng x) y = ng (g x y)) → List.zipWith g' (xs.map ng) ys = (List.zipWith g xs ys).map ng
  | [], ys, _ => by simp
  | x :: xs, [], _ => by simp
  | x :: xs, y :: ys, h => by
    rw [List.map_cons, List.zipWith_cons_cons, List.zipWith_cons_cons, List.map_cons, h x List.mem_cons_self y List.mem_cons_self, zw_map xs ys fun a ha b hb => h a (List.mem_cons_of_mem _ ha) b (List.mem_cons_of_mem _ hb)]
theorem zw_map2 {g g' : Int × Int → Int × Int → Int × Int} : ∀ (xs ys : List (Int × Int)), (∀ x ∈ xs, ∀ y ∈ ys, g' (ng x) (ng y) = ng (g x y)) → List.zipWith g' (xs.map ng) (ys.map ng) = (List.zipWith g xs ys).map ng
  | [], ys, _ => by simp
  | x :: xs, [], _ => by simp
  | x :: xs, y :: ys, h => by
    rw [List.map_cons, List.map_cons, List.zipWith_cons_cons, List.zipWith_cons_cons, List.map_cons, h x List.mem_cons_self y List.mem_cons_self, zw_map2 xs ys fun a ha b hb => h a (List.mem_cons_of_mem _ ha) b (List.mem_cons_of_mem _ hb)]
theorem stp_ng {n m c d : Nat} {a : Ac} {o : Ot} {w : Int × Int} (ha : SqA n m a) (ho : OkO c m o) (hw : Sq d w) : stp (ngA a) (o, ng w) = ngA (stp a (o, w)) := by
  have e : ∀ x q : Int × Int, ∀ {k l : Nat}, Sq k x → Sq l q → pl (ng x) (tm (ng w) q) = ng (pl x (tm w q)) := fun x q k l hx hq => by
    rw [ng_tm hw hq, ng_pl hx (hw.tm hq)]
  refine Prod.ext ?_ ?_
  · exact zw_map (g := fun x q => pl x (tm w q)) _ _ fun x hx y hy => e x y (ha.sq x hx) (ho.sq y hy)
  · exact e a.2 o.2.2 ha.bd ho.bd
theorem stp_flip {n m c d : Nat} {a : Ac} {o : Ot} {w : Int × Int} (ha : SqA n m a) (ho : OkO c m o) (hw : Sq d w) : stp (ngA a) (flip o, w) = ngA (stp a (o, w)) := by
  have e : ∀ x q : Int × Int, ∀ {k l : Nat}, Sq k x → Sq l q → pl (ng x) (tm w (ng q)) = ng (pl x (tm w q)) := fun x q k l hx hq => by
    rw [tm_ng hw hq, ng_pl hx (hw.tm hq)]
  refine Prod.ext ?_ ?_
  · exact zw_map2 (g := fun x q => pl x (tm w q)) _ _ fun x hx y hy => e x y (ha.sq x hx) (ho.sq y hy)
  · exact e a.2 o.2.2 ha.bd ho.bd
theorem zw_id {g : Int × Int → Int × Int → Int × Int} : ∀ (xs ys : List (Int × Int)), xs.length = ys.length → (∀ x ∈ xs, ∀ y ∈ ys, g x y = x) → List.zipWith g xs ys = xs
  | [], ys, _, _ => by simp
  | x :: xs, [], h, _ => by simp at h
  | x :: xs, y :: ys, hl, h => by
    rw [List.zipWith_cons_cons, h x List.mem_cons_self y List.mem_cons_self, zw_id xs ys (by simpa using hl) fun a ha b hb => h a (List.mem_cons_of_mem _ ha) b (List.mem_cons_of_mem _ hb)]
theorem stp_0 {n m c : Nat} {a : Ac} {o : Ot} (ha : SqA n m a) (ho : OkO c m o) : stp a (o, (0, 1)) = a := by
  have e : ∀ x q : Int × Int, ∀ {k l : Nat}, Sq k x → Sq l q → pl x (tm (0, 1) q) = x := fun x q k l hx hq => by rw [zero_tm hq, pl_zero hx]
  refine Prod.ext ?_ ?_
  · exact zw_id _ _ (by rw [ha.len, ho.len]) fun x hx y hy => e x y (ha.sq x hx) (ho.sq y hy)
  · exact e a.2 o.2.2 ha.bd ho.bd
theorem SqA.ng {n m : Nat} {a : Ac} (h : SqA n m a) : SqA n m (ngA a) := ⟨by show (a.1.map K15.ng).length = m; rw [List.length_map]; exact h.len, fun x hx => by obtain ⟨y, hy, rfl⟩ := List.mem_map.mp hx; exact (h.sq y hy).ng, h.bd.ng⟩
def wp (w : Int × Int) : Int × Int := if (0 : Int) > w.1 then (0, 1) else w
def wm (w : Int × Int) : Int × Int := if (0 : Int) > (ng w).1 then (0, 1) else ng w
theorem wpm_pos {n : Nat} {w : Int × Int} (h : Sq n w) (hw : 0 ≤ w.1) : wp w = w ∧ wm w = (0, 1) := by
  refine ⟨if_neg (by omega), ?_⟩
  unfold wm
  by_cases c : (0 : Int) > (ng w).1
  · exact if_pos c
  · rw [if_neg c]
    have c : ¬ (0 : Int) > -w.1 := c
    have e : w = (0, 1) := (z01 h).mpr (by omega)
    rw [e]; rfl
theorem wpm_neg {w : Int × Int} (hw : w.1 < 0) : wp w = (0, 1) ∧ wm w = ng w := ⟨if_pos hw, if_neg (by show ¬ (0 : Int) > -w.1; omega)⟩
theorem wp_sq {n : Nat} {w : Int × Int} (h : Sq n w) (hn : 1 ≤ n) : Sq n (wp w) := by unfold wp; split; exact sq01 n hn; exact h
theorem wm_sq {n : Nat} {w : Int × Int} (h : Sq n w) (hn : 1 ≤ n) : Sq n (wm w) := by unfold wm; split; exact sq01 n hn; exact h.ng
theorem wp_nn (w : Int × Int) : 0 ≤ (wp w).1 := by
  unfold wp
  split
  · exact Int.le_refl _
  · omega
theorem wm_nn (w : Int × Int) : 0 ≤ (wm w).1 := by
  unfold wm
  split
  · exact Int.le_refl _
  · omega
structure PairK (m j : Nat) (os : List Ot) (ws vs : List (Int × Int)) : Prop where
  lw : os.length = ws.length
  lv : os.length = vs.length
  lo : j ≤ os.length
  hi : os.length ≤ 2 * j
  ok : ∀ o ∈ os, OkO 30 m o
  sw : ∀ x ∈ ws, Sq 6 x
  sv : ∀ x ∈ vs, Sq 6 x
  aw : alw (os.zip ws) = true
  av : alw (os.zip vs) = true
  tg : tog m (os.zip vs) = ngA (tog m (os.zip ws))
theorem PairK.sq {m j : Nat} {os : List Ot} {ws vs : List (Int × Int)} (h : PairK m j os ws vs) : SqA (1 + os.length * (6 + 30 + 1)) m (tog m (os.zip ws)) := tog_sq (bud_all h.lw h.ok h.sw)
theorem pair0 (m : Nat) : PairK m 0 [] [] [] := by
  refine ⟨rfl, rfl, Nat.le_refl _, Nat.le_refl _, fun o h => (by cases h), fun x h => (by cases h), fun x h => (by cases h), rfl, rfl, ?_⟩
  show (List.replicate m ((0 : Int), (1 : Int)), ((0 : Int), (1 : Int))) = ((List.replicate m (0, 1)).map ng, ng (0, 1))
  rw [List.map_replicate]; rfl
theorem mem_app1 {α : Type} {l : List α} {a : α} {p : α → Prop} (h : ∀ x ∈ l, p x) (ha : p a) : ∀ x ∈ l ++ [a], p x := fun x hx => by
  rcases List.mem_append.mp hx with h' | h'
  · exact h x h'
  · rw [List.mem_singleton.mp h']; exact ha
theorem mem_app2 {α : Type} {l : List α} {a b : α} {p : α → Prop} (h : ∀ x ∈ l, p x) (ha : p a) (hb : p b) : ∀ x ∈ l ++ [a, b], p x := fun x hx => by
  rcases List.mem_append.mp hx with h' | h'
  · exact h x h'
  · rcases List.mem_cons.mp h' with rfl | h'
    · exact ha
    · rw [List.mem_singleton.mp h']; exact hb
theorem alw_app (l : List Pr) (p : Pr) : alw (l ++ [p]) = (alw l && (decide (p.1.1 = ("=" : Str)) || !lt2 p.2 (0, 1))) := by
  unfold alw
  rw [List.all_append, List.all_cons, List.all_nil, Bool.and_true]
theorem PairK.eq {m j : Nat} {os : List Ot} {ws vs : List (Int × Int)} {o : Ot} {w : Int × Int} (h : PairK m j os ws vs) (ho : OkO 30 m ("=", o.2)) (hw : Sq 6 w) : PairK m (j + 1) (os ++ [(("=" : Str), o.2)]) (ws ++ [w]) (vs ++ [ng w]) := by
  have z1 : (os ++ [(("=" : Str), o.2)]).zip (ws ++ [w]) = os.zip ws ++ [((("=" : Str), o.2), w)] := List.zip_append h.lw
  have z2 : (os ++ [(("=" : Str), o.2)]).zip (vs ++ [ng w]) = os.zip vs ++ [((("=" : Str), o.2), ng w)] := List.zip_append h.lv
  have := h.lw
  have := h.lv
  have := h.lo
  have := h.hi
  refine ⟨by simp; omega, by simp; omega, by simp; omega, by simp; omega, mem_app1 h.ok ho, mem_app1 h.sw hw, mem_app1 h.sv hw.ng, ?_, ?_, ?_⟩
  · rw [z1, alw_app, h.aw]; rfl
  · rw [z2, alw_app, h.av]; rfl
  · rw [z1, z2, tog_app, tog_app, h.tg]
    exact stp_ng h.sq ho hw
theorem PairK.two {m j : Nat} {os : List Ot} {ws vs : List (Int × Int)} {o : Ot} {w : Int × Int} (h : PairK m j os ws vs) (ho : OkO 30 m ("<=", o.2)) (hw : Sq 6 w) : PairK m (j + 1) (os ++ [(("<=" : Str), o.2), (("<=" : Str), o.2.1.map ng, ng o.2.2)]) (ws ++ [wp w, wm w]) (vs ++ [wm w, wp w]) := by
  have z1 : (os ++ [(("<=" : Str), o.2), (("<=" : Str), o.2.1.map ng, ng o.2.2)]).zip (ws ++ [wp w, wm w]) = os.zip ws ++ [((("<=" : Str), o.2), wp w)] ++ [(flip ("<=", o.2), wm w)] := by
    rw [List.zip_append h.lw, List.append_assoc]; rfl
  have z2 : (os ++ [(("<=" : Str), o.2), (("<=" : Str), o.2.1.map ng, ng o.2.2)]).zip (vs ++ [wm w, wp w]) = os.zip vs ++ [((("<=" : Str), o.2), wm w)] ++ [(flip ("<=", o.2), wp w)] := by
    rw [List.zip_append h.lv, List.append_assoc]; rfl
  have := h.lw
  have := h.lv
  have := h.lo
  have := h.hi
  have hf := flip_ok ho
  have n1 : lt2 (wp w) (0, 1) = false := by rw [lt01]; exact decide_eq_false (by have := wp_nn w; omega)
  have n2 : lt2 (wm w) (0, 1) = false := by rw [lt01]; exact decide_eq_false (by have := wm_nn w; omega)
  refine ⟨by simp; omega, by simp; omega, by simp; omega, by simp; omega, mem_app2 h.ok ho hf, mem_app2 h.sw (wp_sq hw (by decide)) (wm_sq hw (by decide)), mem_app2 h.sv (wm_sq hw (by decide)) (wp_sq hw (by decide)), ?_, ?_, ?_⟩
  · rw [z1, alw_app, alw_app, h.aw, n1, n2]; simp
  · rw [z2, alw_app, alw_app, h.av, n1, n2]; simp
  · rw [z1, z2, tog_app, tog_app, tog_app, tog_app, h.tg]
    have hs := h.sq
    generalize tog m (os.zip ws) = a at hs
    by_cases c : 0 ≤ w.1
    · rw [(wpm_pos hw c).1, (wpm_pos hw c).2, stp_0 (hs.stp ho hw) hf, stp_0 hs.ng ho]
      exact stp_flip hs ho hw
    · rw [(wpm_neg (by omega : w.1 < 0)).1, (wpm_neg (by omega : w.1 < 0)).2, stp_0 hs ho, stp_0 (hs.ng.stp ho hw.ng) hf]
      have e := stp_flip hs hf hw.ng
      rw [flip_flip] at e
      exact e
end
end
section
noncomputable section
variable {P : Program} {w : World} {K : Fg} {mg : Str → Option Value} {base : Heap} {f : Addr} {fd : FuncData}
abbrev ToS (F : List Dat → Option Dat) : Prop := ∀ x : Int × Int, F [frD x] = some (.int x.1)
theorem maxK_ok {F : List Dat → Option Dat} (ht : ToS F) {fs : Rho → Option (List Dat)} {ρ : Rho} {a b : Int × Int} (h : fs ρ = some [frD a, frD b]) : fMaxK F fs ρ = some (frD (if b.1 > a.1 then b else a)) := by
  unfold fMaxK
  rw [h]
  have k1 : keyI F (frD a) = some a.1 := by unfold keyI; rw [ht]; rfl
  have k2 : keyI F (frD b) = some b.1 := by unfold keyI; rw [ht]; rfl
  show ((keyI F (frD a)).bind fun i1 => (keyI F (frD b)).bind fun i2 => some (if i2 > i1 then frD b else frD a)) = _
  rw [k1, k2]
  show some (if b.1 > a.1 then frD b else frD a) = _
  by_cases c : b.1 > a.1
  · rw [if_pos c, if_pos c]
  · rw [if_neg c, if_neg c]
theorem noL_o (o : Ot) : noL 9 (oD o) = true := by
  have : (o.2.1.map frD).all (noL 7) = true := by rw [List.all_map, List.all_eq_true]; exact fun x _ => rfl
  show ([Dat.str o.1, .tuple (o.2.1.map frD), frD o.2.2] : List Dat).all (noL 8) = true
  simp only [List.all_cons, List.all_nil, Bool.and_true, Bool.and_eq_true]
  exact ⟨rfl, this, rfl⟩
theorem noL_os (os : List Ot) : (os.map oD).all (noL 9) = true := by rw [List.all_map, List.all_eq_true]; exact fun o _ => noL_o o
theorem noL_ws (ws : List (Int × Int)) : (ws.map frD).all (noL 9) = true := by rw [List.all_map, List.all_eq_true]; exact fun _ _ => rfl
abbrev PaS (F : List Dat → List Dat → Option (Dat × List Dat)) : Prop := ∀ (r : R) (m : Nat), Rok r → m ≤ 9 → ∃ d ds', (∃ (os : List Ot) (ws vs : List (Int × Int)) (r' : R) (j : Nat), d = .tuple [.list (os.map oD), .list (ws.map frD), .list (vs.map frD)] ∧ ds' = rD r' ∧ Rok r' ∧ PairK m j os ws vs ∧ 1 ≤ j ∧ j ≤ 4) ∧ F (rD r) [nat m] = some (d, ds')
theorem d_pair (T : TX mg) {Ft Fk : List Dat → Option Dat} (Dl_take : DnM P w K mg base 3 "_law_take" ["reel", "many"] 2 F_take) (Dl_make : Dn P w K mg base 3 "_law_make" ["n", "d"] 2 F_lmake) (Dl_line : DnM P w K mg base 3 "_law_line" ["reel", "many", "great"] 3 F_line) (Dl_turned : Dn P w K mg base 3 "_law_turned" ["parts", "bound"] 2 Ft) (ht : TuS Ft) (Dl_top : Dn P w K mg base 2 "_law_top" ["number"] 1 Fk) (hk : ToS Fk) (U : FnAt K mg "_law_pair" (top 28) ["reel", "many"]) :
    ∃ F, DnM P w K mg base 4 "_law_pair" ["reel", "many"] 2 F ∧ PaS F := by
  refine ⟨_, qdnMA ["reel", "many", "others", "first", "second", "k", "kind", "parts", "bound", "weight", "back", "less", "more"] U fun nd _ _ _ _ _ _ _ hr => (qpsf_cons (qpsf_own 2 nd (qpfl_lst qpfa_nil))
    (qpsf_cons (qpsf_own 3 nd (qpfl_lst qpfa_nil))
    (qpsf_cons (qpsf_own 4 nd (qpfl_lst qpfa_nil))
    (qpsf_cons (qpsf_forH PassesOwn.never rfl (qpih_range1 T.range (qpha_cons (qph_add (qph_pure qpf_int) (qph_mut 0 Dl_take hr (qpha_cons (qph_pure qpf_int) qpha_nil))) qpha_nil (hst := star_bin))) (qpgf_name 5 nd)
    (qpsf_cons (qpsf_asgH (qph_mut 0 Dl_line hr (qpha_cons (qph_pure (qpf_var 1)) (qpha_cons (qph_pure qpf_bl) qpha_nil))) (qpgf_tup (n := 3) rfl (qpgfs_cons (qpgf_name 6 nd) (qpgfs_cons (qpgf_name 7 nd) (qpgfs_cons (qpgf_name 8 nd) qpgfs_nil)))))
    (qpsf_cons (qpsf_setH 9 nd (qph_fn Dl_make hr (qpha_cons (qph_sub (qph_mut 0 Dl_take hr (qpha_cons (qph_pure qpf_int) qpha_nil)) (qph_pure qpf_int)) (qpha_cons (qph_add (qph_pure qpf_int) (qph_mut 0 Dl_take hr (qpha_cons (qph_pure qpf_int) qpha_nil))) qpha_nil (hst := star_bin)) (hst := star_bin))))
    (qpsf_cons (qpsf_set 10 nd (qpf_tup (k := 0) (qpfa_cons (qpf_neg (qpf_ix (qpf_var 9) qpf_int)) (qpfa_cons (qpf_ix (qpf_var 9) qpf_int) qpfa_nil (hs := star_sub)) (hs := star_un))))
    (qpsf_one (qpsf_ifH (qpht_gt (qph_mut 0 Dl_take hr (qpha_cons (qph_pure qpf_int) qpha_nil)) (qph_pure qpf_int)) (qpsf_cons (qpsf_append 2 (qpf_tup (k := 0) (qpfa_cons qpf_str (qpfa_cons (qpf_var 7) (qpfa_cons (qpf_var 8) qpfa_nil)))))
    (qpsf_cons (qpsf_append 3 (qpf_var 9))
    (qpsf_one (qpsf_append 4 (qpf_var 10))))) (qpsf_cons (qpsf_asg (qpf_fn Dl_turned hr (qpfa_cons (qpf_var 7) (qpfa_cons (qpf_var 8) qpfa_nil))) (qpgf_tup (n := 2) rfl (qpgfs_cons (qpgf_name 11 nd) (qpgfs_cons (qpgf_name 12 nd) qpgfs_nil))))
    (qpsf_cons (qpsf_ownN 2 nd (qpfl_catV (qpf_var 2) (qpf_lst (qpfa_cons (qpf_tup (k := 0) (qpfa_cons qpf_str (qpfa_cons (qpf_var 7) (qpfa_cons (qpf_var 8) qpfa_nil)))) (qpfa_cons (qpf_tup (k := 0) (qpfa_cons qpf_str (qpfa_cons (qpf_var 11) (qpfa_cons (qpf_var 12) qpfa_nil)))) qpfa_nil (hs := star_tup)) (hs := star_tup)))))
    (qpsf_cons (qpsf_ownN 3 nd (qpfl_catV (qpf_var 3) (qpf_lst (qpfa_cons (qpf_maxK Dl_top hr T.max (qpfa_cons (qpf_var 9) (qpfa_cons (qpf_tup (k := 0) (qpfa_cons qpf_int (qpfa_cons qpf_int qpfa_nil))) qpfa_nil (hs := star_tup)))) (qpfa_cons (qpf_maxK Dl_top hr T.max (qpfa_cons (qpf_var 10) (qpfa_cons (qpf_tup (k := 0) (qpfa_cons qpf_int (qpfa_cons qpf_int qpfa_nil))) qpfa_nil (hs := star_tup)))) qpfa_nil (hs := star_call)) (hs := star_call)))))
    (qpsf_one (qpsf_ownN 4 nd (qpfl_catV (qpf_var 4) (qpf_lst (qpfa_cons (qpf_maxK Dl_top hr T.max (qpfa_cons (qpf_var 10) (qpfa_cons (qpf_tup (k := 0) (qpfa_cons qpf_int (qpfa_cons qpf_int qpfa_nil))) qpfa_nil (hs := star_tup)))) (qpfa_cons (qpf_maxK Dl_top hr T.max (qpfa_cons (qpf_var 9) (qpfa_cons (qpf_tup (k := 0) (qpfa_cons qpf_int (qpfa_cons qpf_int qpfa_nil))) qpfa_nil (hs := star_tup)))) qpfa_nil (hs := star_call)) (hs := star_call)))))))))))))))
    (qpsf_one (qpsf_retFs [2, 3, 4] (qph_pure (qpf_tup (k := 0) (qpfa_cons (qpf_var 2) (qpfa_cons (qpf_var 3) (qpfa_cons (qpf_var 4) qpfa_nil))))))))))), ?_⟩
  intro r m hR hm
  refine runMx ?_
  show ∃ fl, _ ∧ sSeq _ _ [some (.own (rD r)), some (.imm (nat m)), none, none, none, none, none, none, none, none, none, none, none] = some fl
  refine seqR (Γ' := [some (.own (rD r)), some (.imm (nat m)), some (.own ([])), none, none, none, none, none, none, none, none, none, none]) rfl ?_
  refine seqR (Γ' := [some (.own (rD r)), some (.imm (nat m)), some (.own ([])), some (.own ([])), none, none, none, none, none, none, none, none, none]) rfl ?_
  refine seqR (Γ' := [some (.own (rD r)), some (.imm (nat m)), some (.own ([])), some (.own ([])), some (.own ([])), none, none, none, none, none, none, none, none]) rfl ?_
  have f4 := F_take_ok (m := 4) hR (by decide) (by decide)
  have b4 := tk_bd r (m := 4) (by decide)
  have R1 := tr_ok (m := 4) hR
  generalize tk r 4 = t4 at f4 b4
  generalize tr r 4 = r1 at f4 R1
  obtain ⟨n, hn⟩ : ∃ n : Nat, 1 + t4 = (n : Int) := ⟨(1 + t4).toNat, by omega⟩
  refine seqX (fun Γ => ∃ (os : List Ot) (ws vs : List (Int × Int)) (rr : R) (x5 x6 x7 x8 x9 x10 x11 x12 : Option Slot), Rok rr ∧ PairK m n os ws vs ∧ Γ = [some (.own (rD rr)), some (.imm (nat m)), some (.own (os.map oD)), some (.own (ws.map frD)), some (.own (vs.map frD)), x5, x6, x7, x8, x9, x10, x11, x12]) ?_ ?_
  · refine forH_ex (n := n) (Γ1 := [some (.own (rD r1)), some (.imm (nat m)), some (.own ([])), some (.own ([])), some (.own ([])), none, none, none, none, none, none, none, none]) (fun j Γ => ∃ (os : List Ot) (ws vs : List (Int × Int)) (rr : R) (x5 x6 x7 x8 x9 x10 x11 x12 : Option Slot), Rok rr ∧ PairK m j os ws vs ∧ Γ = [some (.own (rD rr)), some (.imm (nat m)), some (.own (os.map oD)), some (.own (ws.map frD)), some (.own (vs.map frD)), x5, x6, x7, x8, x9, x10, x11, x12]) ?_ (by omega) ⟨[], [], [], r1, none, none, none, none, none, none, none, none, R1, pair0 m, rfl⟩ ?_
    · simp! [f4, addD_int, hn]
    · rintro i Γ hi ⟨os, ws, vs, rr, x5, x6, x7, x8, x9, x10, x11, x12, RR, hP, rfl⟩
      refine ⟨[(5, nat i)], rfl, ?_⟩
      show ∃ Γ', sSeq _ _ [some (.own (rD rr)), some (.imm (nat m)), some (.own (os.map oD)), some (.own (ws.map frD)), some (.own (vs.map frD)), some (.imm (nat i)), x6, x7, x8, x9, x10, x11, x12] = _ ∧ _
      have hi4 : i < 4 := by omega
      have hol := hP.hi
      have hwl := hP.lw
      have hvl := hP.lv
      obtain ⟨o, r1, eL, R1', hO⟩ := line_ex (m := m) RR hm
      refine exS (Γ1 := [some (.own (rD r1)), some (.imm (nat m)), some (.own (os.map oD)), some (.own (ws.map frD)), some (.own (vs.map frD)), some (.imm (nat i)), some (.imm (.str o.1)), some (.imm (frsD o.2.1)), some (.imm (frD o.2.2)), x9, x10, x11, x12]) (by simp! [eL]) ?_
      have f9 := F_take_ok (m := 9) R1' (by decide) (by decide)
      have b9 := tk_bd r1 (m := 9) (by decide)
      have R2 := tr_ok (m := 9) R1'
      generalize tk r1 9 = t9 at f9 b9
      generalize tr r1 9 = r2 at f9 R2
      have f3 := F_take_ok (m := 3) R2 (by decide) (by decide)
      have b3 := tk_bd r2 (m := 3) (by decide)
      have R3 := tr_ok (m := 3) R2
      generalize tk r2 3 = t3 at f3 b3
      generalize tr r2 3 = r3 at f3 R3
      have eM := lmake_ok (n := t9 - 4) (d := 1 + t3) (by omega) (Nat.lt_of_lt_of_le (show (1 + t3).natAbs < 2 ^ 6 by omega) (Nat.pow_le_pow_right (by decide) (by decide)))
      have hW : Sq 6 (rd2 (t9 - 4) (1 + t3)) := sq_small (by omega) (by omega) (by omega)
      have eM' : F_lmake [.int (t9 - 4), .int (1 + t3)] = some (frD (rd2 (t9 - 4) (1 + t3))) := eM
      generalize rd2 (t9 - 4) (1 + t3) = W at eM' hW
      have z2 : 2 ≤ sizeLine := sz (by decide)
      have z3 : 3 ≤ sizeLine := sz (by decide)
      refine exS (Γ1 := [some (.own (rD r3)), some (.imm (nat m)), some (.own (os.map oD)), some (.own (ws.map frD)), some (.own (vs.map frD)), some (.imm (nat i)), some (.imm (.str o.1)), some (.imm (frsD o.2.1)), some (.imm (frD o.2.2)), some (.imm (frD W)), x10, x11, x12]) (by simp! [f9, f3, subD_int, addD_int, eM']) ?_
      refine exS (Γ1 := [some (.own (rD r3)), some (.imm (nat m)), some (.own (os.map oD)), some (.own (ws.map frD)), some (.own (vs.map frD)), some (.imm (nat i)), some (.imm (.str o.1)), some (.imm (frsD o.2.1)), some (.imm (frD o.2.2)), some (.imm (frD W)), some (.imm (frD (ng W))), x11, x12]) (by simp! [fr, atI2_0, atI2_1, z2, ng]) ?_
      have f3' := F_take_ok (m := 3) R3 (by decide) (by decide)
      have R4 := tr_ok (m := 3) R3
      generalize tk r3 3 = u3 at f3'
      generalize tr r3 3 = r4 at f3' R4
      by_cases c : 0 < u3
      · have y1 : (os.map oD).length < sizeLine := by rw [List.length_map]; exact small1000 (by omega)
        have y2 : (ws.map frD).length < sizeLine := by rw [List.length_map]; exact small1000 (by omega)
        have y3 : (vs.map frD).length < sizeLine := by rw [List.length_map]; exact small1000 (by omega)
        refine ⟨[some (.own (rD r4)), some (.imm (nat m)), some (.own ((os ++ [(("=" : Str), o.2)]).map oD)), some (.own ((ws ++ [W]).map frD)), some (.own ((vs ++ [ng W]).map frD)), some (.imm (nat i)), some (.imm (.str o.1)), some (.imm (frsD o.2.1)), some (.imm (frD o.2.2)), some (.imm (frD W)), some (.imm (frD (ng W))), x11, x12], (sIfH_t (Γ' := [some (.own (rD r4)), some (.imm (nat m)), some (.own (os.map oD)), some (.own (ws.map frD)), some (.own (vs.map frD)), some (.imm (nat i)), some (.imm (.str o.1)), some (.imm (frsD o.2.1)), some (.imm (frD o.2.2)), some (.imm (frD W)), some (.imm (frD (ng W))), x11, x12]) (by simp! [f3', gtD_int, eq_true c])).trans ?_, os ++ [(("=" : Str), o.2)], ws ++ [W], vs ++ [ng W], r4, _, _, _, _, _, _, _, _, R4, hP.eq ⟨.inl rfl, hO.len, hO.sq, hO.bd⟩ hW, rfl⟩
        rw [List.map_append, List.map_append, List.map_append]
        generalize os.map oD = dos at *
        generalize ws.map frD = dws at *
        generalize vs.map frD = dvs at *
        simp! [z3, eq_true y1, eq_true y2, eq_true y3]
      · have e1 := ht o.2.1 o.2.2 (by rw [hO.len]; omega)
        have y0 : ∀ ρ : Rho, fCons (fVar 9) (fCons (fTup (fCons (fC (.int 0)) (fCons (fC (.int 1)) fNil))) fNil) ρ = ((fVar 9 ρ).bind fun d => some [d, .tuple [.int 0, .int 1]]) := by
          intro ρ
          simp! [z2]
        have y0' : ∀ ρ : Rho, fCons (fVar 10) (fCons (fTup (fCons (fC (.int 0)) (fCons (fC (.int 1)) fNil))) fNil) ρ = ((fVar 10 ρ).bind fun d => some [d, .tuple [.int 0, .int 1]]) := by
          intro ρ
          simp! [z2]
        have m1 : ∀ ρ : Rho, fVar 9 ρ = some (frD W) → fMaxK Fk (fCons (fVar 9) (fCons (fTup (fCons (fC (.int 0)) (fCons (fC (.int 1)) fNil))) fNil)) ρ = some (frD (wp W)) := fun ρ h => maxK_ok hk (a := W) (b := (0, 1)) (by rw [y0, h]; rfl)
        have m2 : ∀ ρ : Rho, fVar 10 ρ = some (frD (ng W)) → fMaxK Fk (fCons (fVar 10) (fCons (fTup (fCons (fC (.int 0)) (fCons (fC (.int 1)) fNil))) fNil)) ρ = some (frD (wm W)) := fun ρ h => maxK_ok hk (a := ng W) (b := (0, 1)) (by rw [y0', h]; rfl)
        refine ⟨[some (.own (rD r4)), some (.imm (nat m)), some (.own ((os ++ [(("<=" : Str), o.2), (("<=" : Str), o.2.1.map ng, ng o.2.2)]).map oD)), some (.own ((ws ++ [wp W, wm W]).map frD)), some (.own ((vs ++ [wm W, wp W]).map frD)), some (.imm (nat i)), some (.imm (.str o.1)), some (.imm (frsD o.2.1)), some (.imm (frD o.2.2)), some (.imm (frD W)), some (.imm (frD (ng W))), some (.imm (frsD (o.2.1.map ng))), some (.imm (frD (ng o.2.2)))], (sIfH_f (Γ' := [some (.own (rD r4)), some (.imm (nat m)), some (.own (os.map oD)), some (.own (ws.map frD)), some (.own (vs.map frD)), some (.imm (nat i)), some (.imm (.str o.1)), some (.imm (frsD o.2.1)), some (.imm (frD o.2.2)), some (.imm (frD W)), some (.imm (frD (ng W))), x11, x12]) (by simp! [f3', gtD_int, eq_false c])).trans ?_, os ++ [(("<=" : Str), o.2), (("<=" : Str), o.2.1.map ng, ng o.2.2)], ws ++ [wp W, wm W], vs ++ [wm W, wp W], r4, _, _, _, _, _, _, _, _, R4, hP.two ⟨.inr (.inr rfl), hO.len, hO.sq, hO.bd⟩ hW, rfl⟩
        refine (sSeq_nx (Γ' := [some (.own (rD r4)), some (.imm (nat m)), some (.own (os.map oD)), some (.own (ws.map frD)), some (.own (vs.map frD)), some (.imm (nat i)), some (.imm (.str o.1)), some (.imm (frsD o.2.1)), some (.imm (frD o.2.2)), some (.imm (frD W)), some (.imm (frD (ng W))), some (.imm (frsD (o.2.1.map ng))), some (.imm (frD (ng o.2.2)))]) (by simp! [e1])).trans ?_
        refine (sSeq_nx (Γ' := [some (.own (rD r4)), some (.imm (nat m)), some (.own ((os ++ [(("<=" : Str), o.2), (("<=" : Str), o.2.1.map ng, ng o.2.2)]).map oD)), some (.own (ws.map frD)), some (.own (vs.map frD)), some (.imm (nat i)), some (.imm (.str o.1)), some (.imm (frsD o.2.1)), some (.imm (frD o.2.2)), some (.imm (frD W)), some (.imm (frD (ng W))), some (.imm (frsD (o.2.1.map ng))), some (.imm (frD (ng o.2.2)))]) (sOwnN_eq ?_ (noL_os _))).trans ?_
        · rw [List.map_append]
          refine fCatV_ok rfl ?_ (by rw [List.length_map]; show os.length + 2 ≤ 1000; omega)
          refine lst2 (a := lineD "<=" o.2.1 o.2.2) (b := lineD "<=" (o.2.1.map ng) (ng o.2.2)) ?_ ?_
          · simp! [z3]
          · simp! [z3]
        refine (sSeq_nx (Γ' := [some (.own (rD r4)), some (.imm (nat m)), some (.own ((os ++ [(("<=" : Str), o.2), (("<=" : Str), o.2.1.map ng, ng o.2.2)]).map oD)), some (.own ((ws ++ [wp W, wm W]).map frD)), some (.own (vs.map frD)), some (.imm (nat i)), some (.imm (.str o.1)), some (.imm (frsD o.2.1)), some (.imm (frD o.2.2)), some (.imm (frD W)), some (.imm (frD (ng W))), some (.imm (frsD (o.2.1.map ng))), some (.imm (frD (ng o.2.2)))]) (sOwnN_eq ?_ (noL_ws _))).trans ?_
        · have ew : (ws ++ [wp W, wm W]).map frD = ws.map frD ++ [frD (wp W), frD (wm W)] := List.map_append
          rw [ew]
          refine fCatV_ok ?_ (lst2 (m1 _ ?_) (m2 _ ?_)) ?_
          · rfl
          · rfl
          · rfl
          · rw [List.length_map]; show ws.length + 2 ≤ 1000; omega
        refine sOwnN_eq (ds := (vs ++ [wm W, wp W]).map frD) ?_ (noL_ws _)
        have ew : (vs ++ [wm W, wp W]).map frD = vs.map frD ++ [frD (wm W), frD (wp W)] := List.map_append
        rw [ew]
        refine fCatV_ok ?_ (lst2 (m2 _ ?_) (m1 _ ?_)) ?_
        · rfl
        · rfl
        · rfl
        · rw [List.length_map]; show vs.length + 2 ≤ 1000; omega
  · rintro Γ ⟨os, ws, vs, rr, x5, x6, x7, x8, x9, x10, x11, x12, RR, hP, rfl⟩
    have z3 : 3 ≤ sizeLine := sz (by decide)
    refine ⟨.rm (.tuple [.list (os.map oD), .list (ws.map frD), .list (vs.map frD)]) [some (.own (rD rr)), some (.imm (nat m)), some (.imm (.list (os.map oD))), some (.imm (.list (ws.map frD))), some (.imm (.list (vs.map frD))), x5, x6, x7, x8, x9, x10, x11, x12], ⟨_, _, _, rfl, rfl, os, ws, vs, rr, n, rfl, rfl, RR, hP, by omega, by omega⟩, ?_⟩
    show sRetM _ [some (.own (rD rr)), some (.imm (nat m)), some (.imm (.list (os.map oD))), some (.imm (.list (ws.map frD))), some (.imm (.list (vs.map frD))), x5, x6, x7, x8, x9, x10, x11, x12] = _
    simp! [z3]
end
end
section
noncomputable section
variable {P : Program} {w : World} {K : Fg} {mg : Str → Option Value} {base : Heap} {f : Addr} {fd : FuncData}
theorem tup3 {fa fb fc : Rho → Option Dat} {ρ : Rho} {a b c : Dat} (ha : fa ρ = some a) (hb : fb ρ = some b) (hc : fc ρ = some c) : fTup (fCons fa (fCons fb (fCons fc fNil))) ρ = some (.tuple [a, b, c]) := by
  have e : fCons fa (fCons fb (fCons fc fNil)) ρ = some [a, b, c] := by
    unfold fCons
    rw [ha, hb, hc]; rfl
  unfold fTup
  rw [e]
  show (if 3 ≤ sizeLine then some (Dat.tuple [a, b, c]) else none) = _
  rw [if_pos (sz (by decide))]
theorem cut_fr (ws : List (Int × Int)) (lo hi : Option Int) : ∃ ms : List (Int × Int), slU (.list (ws.map frD)) lo hi = some (.list (ms.map frD)) ∧ (∀ x ∈ ms, x ∈ ws) ∧ ms.length ≤ ws.length := by
  refine ⟨(ws.drop (HT.sIx (ws.map frD).length 0 lo)).take (HT.sIx (ws.map frD).length (ws.map frD).length hi - HT.sIx (ws.map frD).length 0 lo), ?_, fun x hx => List.mem_of_mem_drop (List.mem_of_mem_take hx), by rw [List.length_take, List.length_drop]; omega⟩
  show some (Dat.list (L3.cutD (ws.map frD) lo hi)) = _
  unfold L3.cutD
  rw [List.map_take, List.map_drop]
theorem addW {α : Type} (g : α → Dat) (a b : List α) (h : a.length + b.length ≤ 1000) : addU (.list (a.map g)) (.list (b.map g)) = some (.list ((a ++ b).map g)) := by
  show (if (a.map g).length + (b.map g).length ≤ sizeLine then some (Dat.list (a.map g ++ b.map g)) else none) = _
  rw [if_pos (by rw [List.length_map, List.length_map]; exact sz h), List.map_append]
theorem addW1 (a : List (Int × Int)) (b : Int × Int) (h : a.length + 1 ≤ 1000) : addU (.list (a.map frD)) (.list [frD b]) = some (.list ((a ++ [b]).map frD)) := addW frD a [b] h
theorem atW {α : Type} (g : α → Dat) {xs : List α} {i : Nat} (h : i < xs.length) : ixD (.list (xs.map g)) (.int (i : Int)) = some (g xs[i]) := by
  show L2.atI (xs.map g) (i : Int) = _
  have hl : i < (xs.map g).length := by rw [List.length_map]; exact h
  unfold L2.atI L2.ixN
  rw [if_pos (by omega), if_pos (by omega)]
  show (xs.map g)[(i : Int).toNat]? = _
  rw [Int.toNat_natCast, List.getElem?_map, List.getElem?_eq_getElem h]
  rfl
theorem sq17 : Sq 3 (1, 7) := ⟨show (0 : Int) < 7 by decide, show Int.gcd 1 7 = 1 by decide, show (1 : Int).natAbs < 2 ^ 3 by decide, show (7 : Int).natAbs < 2 ^ 3 by decide⟩
theorem sqT {t : Int} (h : 0 ≤ t ∧ t < 2) : Sq 10 (t, 1) := by
  rcases (show t = 0 ∨ t = 1 by omega) with rfl | rfl
  · exact sq01 10 (by decide)
  · exact ⟨show (0 : Int) < 1 by decide, show Int.gcd 1 1 = 1 by decide, show (1 : Int).natAbs < 2 ^ 10 by decide, show (1 : Int).natAbs < 2 ^ 10 by decide⟩
theorem mem_app3 {α : Type} {l k : List α} {p : α → Prop} (h : ∀ x ∈ l, p x) (hk : ∀ x ∈ k, p x) : ∀ x ∈ l ++ k, p x := fun x hx => by
  rcases List.mem_append.mp hx with h' | h'
  · exact h x h'
  · exact hk x h'
abbrev BeS (F : List Dat → List Dat → Option (Dat × List Dat)) : Prop := ∀ (r : R) (ws vs : List (Int × Int)), Rok r → 1 ≤ ws.length → ws.length ≤ 8 → vs.length = ws.length → (∀ x ∈ ws, Sq 6 x) → (∀ x ∈ vs, Sq 6 x) → ∃ d ds', (∃ (w1 w2 : List (Int × Int)) (r' : R), d = .tuple [.list (w1.map frD), .list (w2.map frD)] ∧ ds' = rD r' ∧ Rok r' ∧ (∀ x ∈ w1, Sq 10 x) ∧ ∀ x ∈ w2, Sq 10 x) ∧ F (rD r) [.tuple [.list (ws.map frD), .list (vs.map frD)]] = some (d, ds')
theorem d_bent (T : TX mg) (Dl_take : DnM P w K mg base 2 "_law_take" ["reel", "many"] 2 F_take) (Dl_plus : Dn P w K mg base 2 "_law_plus" ["a", "b"] 2 F_lplus) (U : FnAt K mg "_law_bent" (top 30) ["reel", "papers"]) :
    ∃ F, DnM P w K mg base 3 "_law_bent" ["reel", "papers"] 2 F ∧ BeS F := by
  refine ⟨_, qdnMA ["reel", "papers", "first", "second", "way", "at"] U fun nd _ _ _ _ _ _ _ hr => (qpsf_cons (qpsf_asg (qpf_var 1) (qpgf_tup (n := 2) rfl (qpgfs_cons (qpgf_name 2 nd) (qpgfs_cons (qpgf_name 3 nd) qpgfs_nil))))
    (qpsf_cons (qpsf_setH 4 nd (qph_mut 0 Dl_take hr (qpha_cons (qph_pure qpf_int) qpha_nil)))
    (qpsf_cons (qpsf_setH 5 nd (qph_mut 0 Dl_take hr (qpha_cons (qph_pure (qpf_len T.len (qpfa_cons (qpf_var 2) qpfa_nil))) qpha_nil (hst := star_call))))
    (qpsf_cons (qpsf_if (qpft_eq hr (qpf_var 4) qpf_int) (qpsf_one (qpsf_retM (qph_pure (qpf_tup (k := 0) (qpfa_cons (qpf_var 3) (qpfa_cons (qpf_var 2) qpfa_nil)))))) qpsf_nil)
    (qpsf_cons (qpsf_if (qpft_eq hr (qpf_var 4) qpf_int) (qpsf_one (qpsf_retM (qph_pure (qpf_tup (k := 0) (qpfa_cons (qpf_var 2) (qpfa_cons (qpf_var 2) qpfa_nil)))))) qpsf_nil)
    (qpsf_cons (qpsf_if (qpft_eq hr (qpf_var 4) qpf_int) (qpsf_one (qpsf_retM (qph_pure (qpf_tup (k := 0) (qpfa_cons (qpf_var 2) (qpfa_cons (qpf_addU (qpf_addU (qpf_sliceU (qpf_var 3) qpfo_none (qpfo_some (qpf_var 5))) (qpf_lst (qpfa_cons (qpf_fn Dl_plus hr (qpfa_cons (qpf_ix (qpf_var 3) (qpf_var 5)) (qpfa_cons (qpf_tup (k := 0) (qpfa_cons qpf_int (qpfa_cons qpf_int qpfa_nil))) qpfa_nil (hs := star_tup)) (hs := star_sub))) qpfa_nil (hs := star_call)))) (qpf_sliceU (qpf_var 3) (qpfo_some (qpf_add (qpf_var 5) qpf_int)) qpfo_none)) qpfa_nil (hs := star_bin))))))) qpsf_nil)
    (qpsf_cons (qpsf_if (qpft_eq hr (qpf_var 4) qpf_int) (qpsf_one (qpsf_retM (qph_pure (qpf_tup (k := 0) (qpfa_cons (qpf_sliceU (qpf_var 2) qpfo_none (qpfo_some (qpf_neg qpf_int))) (qpfa_cons (qpf_var 3) qpfa_nil) (hs := star_sub)))))) qpsf_nil)
    (qpsf_cons (qpsf_if (qpft_eq hr (qpf_var 4) qpf_int) (qpsf_one (qpsf_retM (qph_pure (qpf_tup (k := 0) (qpfa_cons (qpf_var 2) (qpfa_cons (qpf_sliceU (qpf_var 3) qpfo_none (qpfo_some (qpf_neg qpf_int))) qpfa_nil (hs := star_sub))))))) qpsf_nil)
    (qpsf_cons (qpsf_if (qpft_eq hr (qpf_var 4) qpf_int) (qpsf_one (qpsf_retM (qph_tup (qpha_cons (qph_addU (qph_pure (qpf_var 2)) (qph_lst (qpha_cons (qph_tup (qpha_cons (qph_mut 0 Dl_take hr (qpha_cons (qph_pure qpf_int) qpha_nil)) (qpha_cons (qph_pure qpf_int) qpha_nil) (hst := star_call))) qpha_nil (hst := star_tup)))) (qpha_cons (qph_pure (qpf_var 3)) qpha_nil) (hst := star_bin))))) qpsf_nil)
    (qpsf_cons (qpsf_if (qpft_eq hr (qpf_var 4) qpf_int) (qpsf_one (qpsf_retM (qph_tup (qpha_cons (qph_pure (qpf_var 2)) (qpha_cons (qph_addU (qph_pure (qpf_var 3)) (qph_lst (qpha_cons (qph_tup (qpha_cons (qph_mut 0 Dl_take hr (qpha_cons (qph_pure qpf_int) qpha_nil)) (qpha_cons (qph_pure qpf_int) qpha_nil) (hst := star_call))) qpha_nil (hst := star_tup)))) qpha_nil (hst := star_bin)))))) qpsf_nil)
    (qpsf_one (qpsf_retM (qph_pure (qpf_tup (k := 0) (qpfa_cons (qpf_var 3) (qpfa_cons (qpf_var 3) qpfa_nil)))))))))))))))), ?_⟩
  intro r ws vs hR h1 h8 hv sw sv
  have sw' : ∀ x ∈ ws, Sq 10 x := fun x hx => (sw x hx).up (by decide)
  have sv' : ∀ x ∈ vs, Sq 10 x := fun x hx => (sv x hx).up (by decide)
  refine runMx ?_
  show ∃ fl, _ ∧ sSeq _ _ [some (.own (rD r)), some (.imm (.tuple [.list (ws.map frD), .list (vs.map frD)])), none, none, none, none] = some fl
  have f8 := F_take_ok (m := 8) hR (by decide) (by decide)
  have b8 := tk_bd r (m := 8) (by decide)
  have R1 := tr_ok (m := 8) hR
  generalize tk r 8 = t8 at f8 b8
  generalize tr r 8 = r1 at f8 R1
  have fn := F_take_ok (m := (ws.length : Int)) R1 (by omega) (by
    have : (ws.length : Int) ≤ 8 := by omega
    exact Int.lt_of_le_of_lt this (by decide))
  have bn := tk_bd r1 (m := (ws.length : Int)) (by omega)
  have R2 := tr_ok (m := (ws.length : Int)) R1
  generalize tk r1 (ws.length : Int) = tn at fn bn
  generalize tr r1 (ws.length : Int) = r2 at fn R2
  obtain ⟨t, rfl⟩ : ∃ t : Nat, tn = (t : Int) := ⟨tn.toNat, by omega⟩
  have ll := lenW frD ws
  have z1 : 1 ≤ sizeLine := sz (by decide)
  have z2 : 2 ≤ sizeLine := sz (by decide)
  refine seqR (Γ' := [some (.own (rD r)), some (.imm (.tuple [.list (ws.map frD), .list (vs.map frD)])), some (.imm (.list (ws.map frD))), some (.imm (.list (vs.map frD))), none, none]) rfl ?_
  refine seqR (Γ' := [some (.own (rD r1)), some (.imm (.tuple [.list (ws.map frD), .list (vs.map frD)])), some (.imm (.list (ws.map frD))), some (.imm (.list (vs.map frD))), some (.imm (.int t8)), none]) (by simp! [f8]) ?_
  refine seqR (Γ' := [some (.own (rD r2)), some (.imm (.tuple [.list (ws.map frD), .list (vs.map frD)])), some (.imm (.list (ws.map frD))), some (.imm (.list (vs.map frD))), some (.imm (.int t8)), some (.imm (nat t))]) (by simp! [ll, fn]) ?_
  have f2 := F_take_ok (m := 2) R2 (by decide) (by decide)
  have b2 := tk_bd r2 (m := 2) (by decide)
  have R3 := tr_ok (m := 2) R2
  generalize tk r2 2 = t2 at f2 b2
  generalize tr r2 2 = r3 at f2 R3
  obtain ⟨c1, k1, hc1, hc1l⟩ := cut_fr ws none (some (-1))
  obtain ⟨c2, k2, hc2, hc2l⟩ := cut_fr vs none (some (-1))
  have htl : t < vs.length := by omega
  obtain ⟨d1, k3, hd1, hd1l⟩ := cut_fr vs none (some (t : Int))
  obtain ⟨d2, k4, hd2, hd2l⟩ := cut_fr vs (some ((t : Int) + 1)) none
  rcases (show t8 = 0 ∨ t8 = 1 ∨ t8 = 2 ∨ t8 = 3 ∨ t8 = 4 ∨ t8 = 5 ∨ t8 = 6 ∨ t8 = 7 by omega) with rfl | rfl | rfl | rfl | rfl | rfl | rfl | rfl
  · refine ⟨_, ⟨_, _, [some (.own (rD r2)), some (.imm (.tuple [.list (ws.map frD), .list (vs.map frD)])), some (.imm (.list (ws.map frD))), some (.imm (.list (vs.map frD))), some (.imm (.int 0)), some (.imm (nat t))], rfl, rfl, vs, ws, r2, rfl, rfl, R2, sv', sw'⟩, ?_⟩
    generalize Dat.list (ws.map frD) = dw
    generalize Dat.list (vs.map frD) = dv
    simp! [eqD_int, Int.reduceEq, z2]
  · refine ⟨_, ⟨_, _, [some (.own (rD r2)), some (.imm (.tuple [.list (ws.map frD), .list (vs.map frD)])), some (.imm (.list (ws.map frD))), some (.imm (.list (vs.map frD))), some (.imm (.int 1)), some (.imm (nat t))], rfl, rfl, ws, ws, r2, rfl, rfl, R2, sw', sw'⟩, ?_⟩
    generalize Dat.list (ws.map frD) = dw
    generalize Dat.list (vs.map frD) = dv
    simp! [eqD_int, Int.reduceEq, z2]
  · have ka := atW frD htl
    have hs := sv vs[t] (List.getElem_mem htl)
    have kp : F_lplus [frD vs[t], frD (1, 7)] = some (frD (pl vs[t] (1, 7))) := F_pl hs sq17 (by decide) (by decide)
    have hy : Sq 10 (pl vs[t] (1, 7)) := hs.pl sq17
    generalize vs[t] = v at ka kp hy
    generalize pl v (1, 7) = y at kp hy
    have e1 := addW1 d1 y (by omega)
    have e2 := addW frD (d1 ++ [y]) d2 (by rw [List.length_append]; show d1.length + 1 + d2.length ≤ 1000; omega)
    refine ⟨_, ⟨_, _, [some (.own (rD r2)), some (.imm (.tuple [.list (ws.map frD), .list (vs.map frD)])), some (.imm (.list (ws.map frD))), some (.imm (.list (vs.map frD))), some (.imm (.int 2)), some (.imm (nat t))], rfl, rfl, ws, d1 ++ [y] ++ d2, r2, rfl, rfl, R2, sw', mem_app3 (mem_app1 (fun x hx => sv' x (hd1 x hx)) hy) (fun x hx => sv' x (hd2 x hx))⟩, ?_⟩
    generalize Dat.list ((d1 ++ [y] ++ d2).map frD) = da at *
    generalize Dat.list ((d1 ++ [y]).map frD) = db at *
    generalize Dat.list (ws.map frD) = dw at *
    generalize Dat.list (vs.map frD) = dv at *
    generalize Dat.list (d1.map frD) = dc at *
    generalize Dat.list (d2.map frD) = dd at *
    have kp' : F_lplus [fr v.1 v.2, .tuple [.int 1, .int 7]] = some (frD y) := kp
    generalize frD y = dy at *
    dsimp! [eqD_int, Int.reduceEq, z1, z2, fSlU, oNone, oSome, asI, addD_int, k3, k4, ka, kp, kp', e1, e2]
  · refine ⟨_, ⟨_, _, [some (.own (rD r2)), some (.imm (.tuple [.list (ws.map frD), .list (vs.map frD)])), some (.imm (.list (ws.map frD))), some (.imm (.list (vs.map frD))), some (.imm (.int 3)), some (.imm (nat t))], rfl, rfl, c1, vs, r2, rfl, rfl, R2, fun x hx => sw' x (hc1 x hx), sv'⟩, ?_⟩
    generalize Dat.list (ws.map frD) = dw at *
    generalize Dat.list (vs.map frD) = dv at *
    generalize Dat.list (c1.map frD) = dc at *
    simp! [eqD_int, Int.reduceEq, z2, fSlU, oNone, oSome, asI, k1]
  · refine ⟨_, ⟨_, _, [some (.own (rD r2)), some (.imm (.tuple [.list (ws.map frD), .list (vs.map frD)])), some (.imm (.list (ws.map frD))), some (.imm (.list (vs.map frD))), some (.imm (.int 4)), some (.imm (nat t))], rfl, rfl, ws, c2, r2, rfl, rfl, R2, sw', fun x hx => sv' x (hc2 x hx)⟩, ?_⟩
    generalize Dat.list (ws.map frD) = dw at *
    generalize Dat.list (vs.map frD) = dv at *
    generalize Dat.list (c2.map frD) = dc at *
    simp! [eqD_int, Int.reduceEq, z2, fSlU, oNone, oSome, asI, k2]
  · refine ⟨_, ⟨_, _, [some (.own (rD r3)), some (.imm (.tuple [.list (ws.map frD), .list (vs.map frD)])), some (.imm (.list (ws.map frD))), some (.imm (.list (vs.map frD))), some (.imm (.int 5)), some (.imm (nat t))], rfl, rfl, ws ++ [(t2, 1)], vs, r3, rfl, rfl, R3, mem_app1 sw' (sqT b2), sv'⟩, ?_⟩
    have ka := addW1 ws (t2, 1) (by omega)
    generalize Dat.list ((ws ++ [(t2, 1)]).map frD) = da at *
    generalize Dat.list (ws.map frD) = dw at *
    generalize Dat.list (vs.map frD) = dv at *
    simp! [eqD_int, Int.reduceEq, z1, z2, f2, ka]
  · refine ⟨_, ⟨_, _, [some (.own (rD r3)), some (.imm (.tuple [.list (ws.map frD), .list (vs.map frD)])), some (.imm (.list (ws.map frD))), some (.imm (.list (vs.map frD))), some (.imm (.int 6)), some (.imm (nat t))], rfl, rfl, ws, vs ++ [(t2, 1)], r3, rfl, rfl, R3, sw', mem_app1 sv' (sqT b2)⟩, ?_⟩
    have ka := addW1 vs (t2, 1) (by omega)
    generalize Dat.list ((vs ++ [(t2, 1)]).map frD) = da at *
    generalize Dat.list (ws.map frD) = dw at *
    generalize Dat.list (vs.map frD) = dv at *
    simp! [eqD_int, Int.reduceEq, z1, z2, f2, ka]
  · refine ⟨_, ⟨_, _, [some (.own (rD r2)), some (.imm (.tuple [.list (ws.map frD), .list (vs.map frD)])), some (.imm (.list (ws.map frD))), some (.imm (.list (vs.map frD))), some (.imm (.int 7)), some (.imm (nat t))], rfl, rfl, vs, vs, r2, rfl, rfl, R2, sv', sv'⟩, ?_⟩
    generalize Dat.list (ws.map frD) = dw
    generalize Dat.list (vs.map frD) = dv
    simp! [eqD_int, Int.reduceEq, z2]
theorem kd2 {t : Int} (h : 0 ≤ t ∧ t < 2) : ∃ k : Str, Kd k ∧ ixD (.list [.str "<=", .str "<"]) (.int t) = some (.str k) := by
  rcases (show t = 0 ∨ t = 1 by omega) with rfl | rfl
  · exact ⟨"<=", .inr (.inr rfl), rfl⟩
  · exact ⟨"<", .inr (.inl rfl), rfl⟩
def sg3 : List (Int × Int) := [(3, 1), (-3, 1)]
def no0 : List (Int × Int) := [(0, 1), (0, 1)]
theorem sg3_sq : ∀ x ∈ sg3, Sq 10 x := fun x hx => by
  rcases List.mem_cons.mp hx with rfl | hx
  · exact ⟨show (0 : Int) < 1 by decide, show Int.gcd 3 1 = 1 by decide, show (3 : Int).natAbs < 2 ^ 10 by decide, show (1 : Int).natAbs < 2 ^ 10 by decide⟩
  · rw [List.mem_singleton.mp hx]
    exact ⟨show (0 : Int) < 1 by decide, show Int.gcd (-3) 1 = 1 by decide, show (-3 : Int).natAbs < 2 ^ 10 by decide, show (1 : Int).natAbs < 2 ^ 10 by decide⟩
theorem no0_sq : ∀ x ∈ no0, Sq 10 x := fun x hx => by
  rcases List.mem_cons.mp hx with rfl | hx
  · exact sq01 10 (by decide)
  · rw [List.mem_singleton.mp hx]; exact sq01 10 (by decide)
abbrev TwS (F : List Dat → List Dat → Option (Dat × List Dat)) : Prop := ∀ (r : R) (m : Nat), Rok r → m ≤ 9 → ∃ d ds', (∃ (o : Ot) (w1 w2 : List (Int × Int)) (r' : R), d = .tuple [.list ([o, o].map oD), .list (w1.map frD), .list (w2.map frD)] ∧ ds' = rD r' ∧ Rok r' ∧ OkO 30 m o ∧ (∀ x ∈ w1, Sq 10 x) ∧ (∀ x ∈ w2, Sq 10 x) ∧ w1.length = 2 ∧ w2.length = 2) ∧ F (rD r) [nat m] = some (d, ds')
theorem d_twice (T : TX mg) (Dl_take : DnM P w K mg base 3 "_law_take" ["reel", "many"] 2 F_take) (Dl_line : DnM P w K mg base 3 "_law_line" ["reel", "many", "great"] 3 F_line) (U : FnAt K mg "_law_twice_more" (top 31) ["reel", "many"]) :
    ∃ F, DnM P w K mg base 4 "_law_twice_more" ["reel", "many"] 2 F ∧ TwS F := by
  refine ⟨_, qdnMA ["reel", "many", "kind", "parts", "bound", "other", "signed", "nought"] U fun nd _ _ _ _ _ _ _ hr => (qpsf_cons (qpsf_asgH (qph_mut 0 Dl_line hr (qpha_cons (qph_pure (qpf_var 1)) (qpha_cons (qph_pure qpf_bl) qpha_nil))) (qpgf_tup (n := 3) rfl (qpgfs_cons (qpgf_name 2 nd) (qpgfs_cons (qpgf_name 3 nd) (qpgfs_cons (qpgf_name 4 nd) qpgfs_nil)))))
    (qpsf_cons (qpsf_setH 5 nd (qph_tup (qpha_cons (qph_ix (qph_pure (qpf_lst (qpfa_cons qpf_str (qpfa_cons qpf_str qpfa_nil)))) (qph_mut 0 Dl_take hr (qpha_cons (qph_pure qpf_int) qpha_nil))) (qpha_cons (qph_pure (qpf_var 3)) (qpha_cons (qph_pure (qpf_var 4)) qpha_nil)) (hst := star_sub))))
    (qpsf_cons (qpsf_set 6 nd (qpf_lst (qpfa_cons (qpf_tup (k := 0) (qpfa_cons qpf_int (qpfa_cons qpf_int qpfa_nil))) (qpfa_cons (qpf_tup (k := 0) (qpfa_cons (qpf_neg qpf_int) (qpfa_cons qpf_int qpfa_nil) (hs := star_un))) qpfa_nil (hs := star_tup)) (hs := star_tup))))
    (qpsf_cons (qpsf_set 7 nd (qpf_lst (qpfa_cons (qpf_tup (k := 0) (qpfa_cons qpf_int (qpfa_cons qpf_int qpfa_nil))) (qpfa_cons (qpf_tup (k := 0) (qpfa_cons qpf_int (qpfa_cons qpf_int qpfa_nil))) qpfa_nil (hs := star_tup)) (hs := star_tup))))
    (qpsf_cons (qpsf_ifH (qpht_eq hr (qph_mut 0 Dl_take hr (qpha_cons (qph_pure qpf_int) qpha_nil)) (qph_pure qpf_int)) (qpsf_one (qpsf_retM (qph_pure (qpf_tup (k := 0) (qpfa_cons (qpf_lst (qpfa_cons (qpf_var 5) (qpfa_cons (qpf_var 5) qpfa_nil))) (qpfa_cons (qpf_var 6) (qpfa_cons (qpf_var 7) qpfa_nil)) (hs := star_lst)))))) qpsf_nil)
    (qpsf_one (qpsf_retM (qph_pure (qpf_tup (k := 0) (qpfa_cons (qpf_lst (qpfa_cons (qpf_var 5) (qpfa_cons (qpf_var 5) qpfa_nil))) (qpfa_cons (qpf_var 7) (qpfa_cons (qpf_var 6) qpfa_nil)) (hs := star_lst))))))))))), ?_⟩
  intro r m hR hm
  refine runMx ?_
  show ∃ fl, _ ∧ sSeq _ _ [some (.own (rD r)), some (.imm (nat m)), none, none, none, none, none, none] = some fl
  obtain ⟨o, r1, eL, R1, hO⟩ := line_ex (m := m) hR hm
  have z2 : 2 ≤ sizeLine := sz (by decide)
  have z3 : 3 ≤ sizeLine := sz (by decide)
  refine seqR (Γ' := [some (.own (rD r1)), some (.imm (nat m)), some (.imm (.str o.1)), some (.imm (frsD o.2.1)), some (.imm (frD o.2.2)), none, none, none]) (by simp! [eL]) ?_
  have f2 := F_take_ok (m := 2) R1 (by decide) (by decide)
  have b2 := tk_bd r1 (m := 2) (by decide)
  have R2 := tr_ok (m := 2) R1
  generalize tk r1 2 = t2 at f2 b2
  generalize tr r1 2 = r2 at f2 R2
  obtain ⟨k, hk, ek⟩ := kd2 b2
  have hO2 : OkO 30 m (k, o.2) := ⟨hk, hO.len, hO.sq, hO.bd⟩
  refine seqR (Γ' := [some (.own (rD r2)), some (.imm (nat m)), some (.imm (.str o.1)), some (.imm (frsD o.2.1)), some (.imm (frD o.2.2)), some (.imm (oD (k, o.2))), none, none]) (by dsimp! [z2, z3, f2, ek]) ?_
  refine seqR (Γ' := [some (.own (rD r2)), some (.imm (nat m)), some (.imm (.str o.1)), some (.imm (frsD o.2.1)), some (.imm (frD o.2.2)), some (.imm (oD (k, o.2))), some (.imm (.list (sg3.map frD))), none]) (by dsimp! [z2]; rfl) ?_
  refine seqR (Γ' := [some (.own (rD r2)), some (.imm (nat m)), some (.imm (.str o.1)), some (.imm (frsD o.2.1)), some (.imm (frD o.2.2)), some (.imm (oD (k, o.2))), some (.imm (.list (sg3.map frD))), some (.imm (.list (no0.map frD)))]) (by dsimp! [z2]; rfl) ?_
  have f2' := F_take_ok (m := 2) R2 (by decide) (by decide)
  have R3 := tr_ok (m := 2) R2
  generalize tk r2 2 = u2 at f2'
  generalize tr r2 2 = r3 at f2' R3
  by_cases c : u2 = 0
  · refine ⟨.rm (.tuple [.list [oD (k, o.2), oD (k, o.2)], .list (sg3.map frD), .list (no0.map frD)]) [some (.own (rD r3)), some (.imm (nat m)), some (.imm (.str o.1)), some (.imm (frsD o.2.1)), some (.imm (frD o.2.2)), some (.imm (oD (k, o.2))), some (.imm (.list (sg3.map frD))), some (.imm (.list (no0.map frD)))], ⟨_, _, _, rfl, rfl, (k, o.2), sg3, no0, r3, rfl, rfl, R3, hO2, sg3_sq, no0_sq, rfl, rfl⟩, ?_⟩
    generalize Dat.list (sg3.map frD) = d1
    generalize Dat.list (no0.map frD) = d2
    generalize oD (k, o.2) = d3
    simp! [f2', eqD_int, eq_true c, z2, z3]
  · refine ⟨.rm (.tuple [.list [oD (k, o.2), oD (k, o.2)], .list (no0.map frD), .list (sg3.map frD)]) [some (.own (rD r3)), some (.imm (nat m)), some (.imm (.str o.1)), some (.imm (frsD o.2.1)), some (.imm (frD o.2.2)), some (.imm (oD (k, o.2))), some (.imm (.list (sg3.map frD))), some (.imm (.list (no0.map frD)))], ⟨_, _, _, rfl, rfl, (k, o.2), no0, sg3, r3, rfl, rfl, R3, hO2, no0_sq, sg3_sq, rfl, rfl⟩, ?_⟩
    generalize Dat.list (sg3.map frD) = d1
    generalize Dat.list (no0.map frD) = d2
    generalize oD (k, o.2) = d3
    simp! [f2', eqD_int, eq_false c, z2, z3]
abbrev OnS (F : List Dat → List Dat → Option (Dat × List Dat)) : Prop := ∀ (r : R) (m : Nat), Rok r → m ≤ 9 → ∃ d ds', (∃ (xs : List (Int × Int)) (b : Int × Int) (os : List Ot) (w1 w2 : List (Int × Int)) (r' : R), d = .tuple [lineD "=" xs b, .list (os.map oD), .tuple [.list (w1.map frD), .list (w2.map frD)]] ∧ ds' = rD r' ∧ Rok r' ∧ Gi m xs b os w1 ∧ ∀ x ∈ w2, Sq 10 x) ∧ F (rD r) [nat m] = some (d, ds')
theorem d_one (T : TX mg) (Dl_take : DnM P w K mg base 3 "_law_take" ["reel", "many"] 2 F_take) (Dl_make : Dn P w K mg base 3 "_law_make" ["n", "d"] 2 F_lmake) (Dl_line : DnM P w K mg base 3 "_law_line" ["reel", "many", "great"] 3 F_line) (Dl_times : Dn P w K mg base 3 "_law_times" ["a", "b"] 2 F_ltimes) (U : FnAt K mg "_law_of_one" (top 32) ["reel", "many"]) :
    ∃ F, DnM P w K mg base 4 "_law_of_one" ["reel", "many"] 2 F ∧ OnS F := by
  refine ⟨_, qdnMA ["reel", "many", "kind", "parts", "bound", "weight", "line"] U fun nd _ _ _ _ _ _ _ hr => (qpsf_cons (qpsf_asgH (qph_mut 0 Dl_line hr (qpha_cons (qph_pure (qpf_var 1)) (qpha_cons (qph_pure qpf_bl) qpha_nil))) (qpgf_tup (n := 3) rfl (qpgfs_cons (qpgf_name 2 nd) (qpgfs_cons (qpgf_name 3 nd) (qpgfs_cons (qpgf_name 4 nd) qpgfs_nil)))))
    (qpsf_cons (qpsf_setH 5 nd (qph_fn Dl_make hr (qpha_cons (qph_add (qph_pure qpf_int) (qph_mut 0 Dl_take hr (qpha_cons (qph_pure qpf_int) qpha_nil))) (qpha_cons (qph_add (qph_pure qpf_int) (qph_mut 0 Dl_take hr (qpha_cons (qph_pure qpf_int) qpha_nil))) qpha_nil (hst := star_bin)) (hst := star_bin))))
    (qpsf_cons (qpsf_set 6 nd (qpf_tup (k := 0) (qpfa_cons qpf_str (qpfa_cons (qpf_tuple T.tuple (qpfa_cons (qpf_of_l (qpfl_comp rfl (blk_cap (tn := ["part"]) (fv := ["weight"]) (js := [5]) rfl (by decide +kernel) (by decide +kernel) rfl (by decide +kernel) (by decide +kernel) rfl
      (fun x hx => by ((have hx2 : x = "weight" := (by simpa using hx)); (rcases hx2 with rfl <;> exact ⟨_, rfl⟩)))
      (fun p hp => by ((have hp2 : p = (("weight" : Str), (5 : Nat)) := (by simpa using hp)); (rcases hp2 with rfl <;> exact ⟨rfl, .inr (.inl rfl), .inl rfl, fun z => by cases z⟩)))) (qpf_var 3) (fun _ _ _ _ => (qpgf_name 0 (show (["part", "weight"] : List Str).Nodup by decide +kernel))) (fun _ _ _ _ => qptsf_nil) (fun _ _ _ _ => (qpf_fn Dl_times hr (qpfa_cons (qpf_var 1) (qpfa_cons (qpf_var 0) qpfa_nil)))) (tg_name rfl))) qpfa_nil)) (qpfa_cons (qpf_fn Dl_times hr (qpfa_cons (qpf_var 5) (qpfa_cons (qpf_var 4) qpfa_nil))) qpfa_nil (hs := star_call)) (hs := star_call)))))
    (qpsf_one (qpsf_retM (qph_tup (qpha_cons (qph_pure (qpf_var 6)) (qpha_cons (qph_lst (qpha_cons (qph_tup (qpha_cons (qph_ix (qph_pure (qpf_lst (qpfa_cons qpf_str (qpfa_cons qpf_str qpfa_nil)))) (qph_mut 0 Dl_take hr (qpha_cons (qph_pure qpf_int) qpha_nil))) (qpha_cons (qph_pure (qpf_var 3)) (qpha_cons (qph_pure (qpf_var 4)) qpha_nil)) (hst := star_sub))) qpha_nil (hst := star_tup))) (qpha_cons (qph_pure (qpf_tup (k := 0) (qpfa_cons (qpf_lst (qpfa_cons (qpf_var 5) qpfa_nil)) (qpfa_cons (qpf_lst (qpfa_cons (qpf_tup (k := 0) (qpfa_cons (qpf_neg (qpf_ix (qpf_var 5) qpf_int)) (qpfa_cons (qpf_ix (qpf_var 5) qpf_int) qpfa_nil (hs := star_sub)) (hs := star_un))) qpfa_nil (hs := star_tup))) qpfa_nil (hs := star_lst)) (hs := star_lst)))) qpha_nil (hst := star_tup)) (hst := star_lst))))))))), ?_⟩
  intro r m hR hm
  refine runMx ?_
  show ∃ fl, _ ∧ sSeq _ _ [some (.own (rD r)), some (.imm (nat m)), none, none, none, none, none] = some fl
  obtain ⟨o, r1, eL, R1, hO⟩ := line_ex (m := m) hR hm
  have z1 : 1 ≤ sizeLine := sz (by decide)
  have z2 : 2 ≤ sizeLine := sz (by decide)
  have z3 : 3 ≤ sizeLine := sz (by decide)
  refine seqR (Γ' := [some (.own (rD r1)), some (.imm (nat m)), some (.imm (.str o.1)), some (.imm (frsD o.2.1)), some (.imm (frD o.2.2)), none, none]) (by simp! [eL]) ?_
  have f5 := F_take_ok (m := 5) R1 (by decide) (by decide)
  have b5 := tk_bd r1 (m := 5) (by decide)
  have R2 := tr_ok (m := 5) R1
  generalize tk r1 5 = t5 at f5 b5
  generalize tr r1 5 = r2 at f5 R2
  have f3 := F_take_ok (m := 3) R2 (by decide) (by decide)
  have b3 := tk_bd r2 (m := 3) (by decide)
  have R3 := tr_ok (m := 3) R2
  generalize tk r2 3 = t3 at f3 b3
  generalize tr r2 3 = r3 at f3 R3
  have eM : F_lmake [.int (1 + t5), .int (1 + t3)] = some (frD (rd2 (1 + t5) (1 + t3))) := lmake_ok (by omega) (Nat.lt_of_lt_of_le (show (1 + t3).natAbs < 2 ^ 6 by omega) (Nat.pow_le_pow_right (by decide) (by decide)))
  have hW : Sq 6 (rd2 (1 + t5) (1 + t3)) := sq_small (by omega) (by omega) (by omega)
  generalize rd2 (1 + t5) (1 + t3) = W at eM hW
  refine seqR (Γ' := [some (.own (rD r3)), some (.imm (nat m)), some (.imm (.str o.1)), some (.imm (frsD o.2.1)), some (.imm (frD o.2.2)), some (.imm (frD W)), none]) (by simp! [f5, f3, addD_int, eM]) ?_
  have et : ∀ {n : Nat} (q : Int × Int), Sq n q → n ≤ 30 → F_ltimes [frD W, frD q] = some (frD (tm W q)) := fun q hq hn => F_tm hW hq (by decide) (by omega)
  refine seqR (Γ' := [some (.own (rD r3)), some (.imm (nat m)), some (.imm (.str o.1)), some (.imm (frsD o.2.1)), some (.imm (frD o.2.2)), some (.imm (frD W)), some (.imm (lineD "=" (o.2.1.map fun q => tm W q) (tm W o.2.2)))]) (sSet_eq (d := lineD "=" (o.2.1.map fun q => tm W q) (tm W o.2.2)) ?_) ?_
  · have ec : ∀ (gt : Dat → Option Asg) (fe : Rho → Option Dat) (cap : List (Option Nat)) (fi : Rho → Option Dat) (ρ : Rho), fi ρ = some (frsD o.2.1) → (∀ y ∈ o.2.1, ∃ as, gt (frD y) = some as ∧ fe (setR (capR cap ρ) as) = some (frD (tm W y))) → fCall tupleD (fCons (fL (fComp cap gt tYesF fe fi)) fNil) ρ = some (frsD (o.2.1.map fun q => tm W q)) := by
      intro gt fe cap fi ρ h1 h2
      refine call1 (fcomp_ok h1 rfl (by rw [List.length_map, hO.len]; exact small1000 (by omega)) (compM frD (fun y => frD (tm W y)) o.2.1 h2)) ?_
      show some (Dat.tuple _) = _
      unfold frsD
      rw [List.map_map]; rfl
    have eb := et o.2.2 hO.bd (by decide)
    refine tup3 rfl (ec _ _ _ _ _ rfl fun y hy => ⟨_, rfl, ?_⟩) ?_
    · have e := et y (hO.sq y hy) (by decide)
      generalize tm W y = ty at *
      simp! [e]
    · generalize tm W o.2.2 = tb at *
      simp! [eb]
  have hL : ∀ x ∈ o.2.1.map (fun q => tm W q), Sq 4000 x := fun x hx => by
    obtain ⟨y, hy, rfl⟩ := List.mem_map.mp hx
    exact (hW.tm (hO.sq y hy)).up (by decide)
  have hB : Sq 4000 (tm W o.2.2) := (hW.tm hO.bd).up (by decide)
  have hlen : (o.2.1.map fun q => tm W q).length = m := by rw [List.length_map]; exact hO.len
  generalize (o.2.1.map fun q => tm W q) = xs at *
  generalize tm W o.2.2 = b at *
  have f2 := F_take_ok (m := 2) R3 (by decide) (by decide)
  have b2 := tk_bd r3 (m := 2) (by decide)
  have R4 := tr_ok (m := 2) R3
  generalize tk r3 2 = t2 at f2 b2
  generalize tr r3 2 = r4 at f2 R4
  obtain ⟨k, hk, ek⟩ := kd2 b2
  have hO2 : OkO 30 m (k, o.2) := ⟨hk, hO.len, hO.sq, hO.bd⟩
  refine ⟨.rm (.tuple [lineD "=" xs b, .list [oD (k, o.2)], .tuple [.list [frD W], .list [frD (ng W)]]]) [some (.own (rD r4)), some (.imm (nat m)), some (.imm (.str o.1)), some (.imm (frsD o.2.1)), some (.imm (frD o.2.2)), some (.imm (frD W)), some (.imm (lineD "=" xs b))], ⟨_, _, _, rfl, rfl, xs, b, [(k, o.2)], [W], [ng W], r4, rfl, rfl, R4, ⟨hlen, hm, hL, hB, (by show 1 ≤ 20; decide), mem_app1 (l := []) (fun x hx => by cases hx) hO2, mem_app1 (l := []) (fun x hx => by cases hx) (hW.up (by decide))⟩, mem_app1 (l := []) (fun x hx => by cases hx) (hW.ng.up (by decide))⟩, ?_⟩
  generalize lineD "=" xs b = dl
  have ek' : atI [Dat.str (Str.ofString "<="), Dat.str (Str.ofString "<")] t2 = some (.str k) := ek
  have en : fr (ng W).1 (ng W).2 = fr (-W.1) W.2 := rfl
  dsimp! [ixD, fr, atI2_0, atI2_1, z1, z2, z3, f2, ek', ng]
end
end
section
noncomputable section
variable {P : Program} {w : World} {K : Fg} {mg : Str → Option Value} {base : Heap} {f : Addr} {fd : FuncData}
abbrev TgS (F : List Dat → Option Dat) : Prop := ∀ (m N : Nat) (os : List Ot) (ws : List (Int × Int)), m ≤ 100 → Bud m (os.zip ws) N → N ≤ 3000 → F [.list (os.map oD), .list (ws.map frD), .int m] = some (.tuple [frsD (tog m (os.zip ws)).1, frD (tog m (os.zip ws)).2])
theorem both_yes {m j : Nat} {os : List Ot} {ws vs : List (Int × Int)} (h : PairK m j os ws vs) : hR (tog m (os.zip ws)).1 (tog m (os.zip ws)).2 os ws = true ∧ hR ((tog m (os.zip ws)).1.map ng) (ng (tog m (os.zip ws)).2) os vs = true := by
  have hl := h.sq.len
  constructor
  · unfold hR
    rw [if_pos h.lw]
    exact hlf_yes hl h.aw rfl (kept_le _ _)
  · unfold hR
    rw [if_pos h.lv]
    refine hlf_yes (b := ng (tog m (os.zip ws)).2) (by rw [List.length_map]; exact hl) h.av h.tg (kept_le _ _)
theorem cut_hi (ds : List Dat) (m : Nat) : L3.cutD ds none (some (m : Int)) = ds.take m := by
  unfold L3.cutD
  rw [HT.sIx_nat, HT.sIx_none, List.drop_zero, Nat.sub_zero]
  by_cases h : m ≤ ds.length
  · rw [Nat.min_eq_left h]
  · rw [Nat.min_eq_right (by omega), List.take_of_length_le (Nat.le_refl _), List.take_of_length_le (by omega)]
theorem d_law (T : TX mg) {FP FB FT FO : List Dat → List Dat → Option (Dat × List Dat)} {Ft Fi Fu : List Dat → Option Dat} (Dl_reel : DnN P w K mg base 7 "_law_reel" ["cell"] 1 F_reel) (Dl_take : DnM P w K mg base 7 "_law_take" ["reel", "many"] 2 F_take) (Dl_pair : DnM P w K mg base 7 "_law_pair" ["reel", "many"] 2 FP) (hP : PaS FP) (Dl_together : Dn P w K mg base 7 "_law_together" ["others", "weights", "many"] 3 Ft) (hT : TgS Ft) (Dis_right : Dn P w K mg base 7 "is_right" ["line", "others", "paper"] 3 Fi) (hI : BoS Fi) (Dl_bent : DnM P w K mg base 7 "_law_bent" ["reel", "papers"] 2 FB) (hB : BeS FB) (Dl_plus : Dn P w K mg base 7 "_law_plus" ["a", "b"] 2 F_lplus) (Dl_is_as_due : Dn P w K mg base 7 "_law_is_as_due" ["line", "others", "papers"] 3 Fu) (hU : DuS Fu) (Dl_twice_more : DnM P w K mg base 7 "_law_twice_more" ["reel", "many"] 2 FT) (hW : TwS FT) (Dl_of_one : DnM P w K mg base 7 "_law_of_one" ["reel", "many"] 2 FO) (hO : OnS FO) (U : Fun K "law" "law" (top 35) f fd) :
    FnOk P w K mg base CX0 8 f fd ["script"] (spF K 1 F_law) := by
  have nd : (["script", "cells", "cell", "reel", "many", "others", "first", "second", "parts", "bound", "line", "bent", "one", "lines", "more", "less"] : List Str).Nodup := by decide +kernel
  refine qok_of U (N := ["script", "cells", "cell", "reel", "many", "others", "first", "second", "parts", "bound", "line", "bent", "one", "lines", "more", "less"]) ⟨rfl, rfl, rfl, by decide +kernel, rfl, by decide +kernel, by decide +kernel⟩ rfl (fun cdv A outer s H E hr =>
    (qpsf_cons (qpsf_set 1 nd (qpf_sliceU (qpf_var 0) qpfo_none (qpfo_some qpf_int)))
    (qpsf_cons (qpsf_if (qpft_eq hr (qpf_var 1) (qpf_lst qpfa_nil)) (qpsf_one (qpsf_set 1 nd (qpf_lst (qpfa_cons qpf_int qpfa_nil)))) qpsf_nil)
    (qpsf_cons (qpsf_for PassesOwn.never rfl (qpf_var 1) (qpgf_name 2 nd)
    (qpsf_cons (qpsf_own 3 nd (qpfl_new Dl_reel hr (qpfa_cons (qpf_var 2) qpfa_nil)))
    (qpsf_cons (qpsf_setH 4 nd (qph_add (qph_pure qpf_int) (qph_mut 3 Dl_take hr (qpha_cons (qph_pure qpf_int) qpha_nil))))
    (qpsf_cons (qpsf_asgH (qph_mut 3 Dl_pair hr (qpha_cons (qph_pure (qpf_var 4)) qpha_nil)) (qpgf_tup (n := 3) rfl (qpgfs_cons (qpgf_name 5 nd) (qpgfs_cons (qpgf_name 6 nd) (qpgfs_cons (qpgf_name 7 nd) qpgfs_nil)))))
    (qpsf_cons (qpsf_asg (qpf_fn Dl_together hr (qpfa_cons (qpf_var 5) (qpfa_cons (qpf_var 6) (qpfa_cons (qpf_var 4) qpfa_nil)))) (qpgf_tup (n := 2) rfl (qpgfs_cons (qpgf_name 8 nd) (qpgfs_cons (qpgf_name 9 nd) qpgfs_nil))))
    (qpsf_cons (qpsf_set 10 nd (qpf_tup (k := 0) (qpfa_cons qpf_str (qpfa_cons (qpf_var 8) (qpfa_cons (qpf_var 9) qpfa_nil)))))
    (qpsf_cons (qpsf_if (qpft_notU (qpf_fn Dis_right hr (qpfa_cons (qpf_var 10) (qpfa_cons (qpf_of_l (qpfl_list T.list (qpfa_cons (qpf_var 5) qpfa_nil))) (qpfa_cons (qpf_tup (k := 0) (qpfa_cons (qpf_of_l (qpfl_list T.list (qpfa_cons (qpf_var 6) qpfa_nil))) (qpfa_cons (qpf_of_l (qpfl_list T.list (qpfa_cons (qpf_var 7) qpfa_nil))) qpfa_nil (hs := star_call)) (hs := star_call))) qpfa_nil (hs := star_tup)) (hs := star_call)))) qpf_bl) (qpsf_one (qpsf_ret qpf_bl)) qpsf_nil)
    (qpsf_cons (qpsf_setH 11 nd (qph_mut 3 Dl_bent hr (qpha_cons (qph_pure (qpf_tup (k := 0) (qpfa_cons (qpf_var 6) (qpfa_cons (qpf_var 7) qpfa_nil)))) qpha_nil (hst := star_tup))))
    (qpsf_cons (qpsf_for PassesOwn.never rfl (qpf_lst (qpfa_cons (qpf_var 10) (qpfa_cons (qpf_tup (k := 0) (qpfa_cons qpf_str (qpfa_cons (qpf_var 8) (qpfa_cons (qpf_fn Dl_plus hr (qpfa_cons (qpf_var 9) (qpfa_cons (qpf_tup (k := 0) (qpfa_cons qpf_int (qpfa_cons qpf_int qpfa_nil))) qpfa_nil (hs := star_tup)))) qpfa_nil (hs := star_call))))) qpfa_nil (hs := star_tup)))) (qpgf_name 12 nd)
    (qpsf_one (qpsf_if (qpft_not (qpft_truth (qpf_fn Dl_is_as_due hr (qpfa_cons (qpf_var 12) (qpfa_cons (qpf_var 5) (qpfa_cons (qpf_var 11) qpfa_nil)))))) (qpsf_one (qpsf_ret qpf_bl)) qpsf_nil)))
    (qpsf_cons (qpsf_asgH (qph_mut 3 Dl_twice_more hr (qpha_cons (qph_pure (qpf_var 4)) qpha_nil)) (qpgf_tup (n := 3) rfl (qpgfs_cons (qpgf_name 13 nd) (qpgfs_cons (qpgf_name 14 nd) (qpgfs_cons (qpgf_name 15 nd) qpgfs_nil)))))
    (qpsf_cons (qpsf_if (qpft_not (qpft_truth (qpf_fn Dl_is_as_due hr (qpfa_cons (qpf_var 10) (qpfa_cons (qpf_addU (qpf_var 5) (qpf_var 13)) (qpfa_cons (qpf_tup (k := 0) (qpfa_cons (qpf_addU (qpf_var 6) (qpf_var 14)) (qpfa_cons (qpf_addU (qpf_var 7) (qpf_var 15)) qpfa_nil (hs := star_bin)) (hs := star_bin))) qpfa_nil (hs := star_tup)) (hs := star_bin)))))) (qpsf_one (qpsf_ret qpf_bl)) qpsf_nil)
    (qpsf_cons (qpsf_asgH (qph_mut 3 Dl_of_one hr (qpha_cons (qph_pure (qpf_var 4)) qpha_nil)) (qpgf_tup (n := 3) rfl (qpgfs_cons (qpgf_name 10 nd) (qpgfs_cons (qpgf_name 5 nd) (qpgfs_cons (qpgf_name 11 nd) qpgfs_nil)))))
    (qpsf_one (qpsf_if (qpft_not (qpft_truth (qpf_fn Dl_is_as_due hr (qpfa_cons (qpf_var 10) (qpfa_cons (qpf_var 5) (qpfa_cons (qpf_var 11) qpfa_nil)))))) (qpsf_one (qpsf_ret qpf_bl)) qpsf_nil))))))))))))))
    (qpsf_one (qpsf_ret qpf_bl)))))) ?_
  intro ds d hl hF'
  unfold F_law at hF'
  split at hF'
  · rename_i h
    obtain ⟨ns, rfl, h63⟩ := h
    cases hF'
    have z0 : 0 ≤ sizeLine := Nat.zero_le _
    have z1 : 1 ≤ sizeLine := sz (by decide)
    have z2 : 2 ≤ sizeLine := sz (by decide)
    have z3 : 3 ≤ sizeLine := sz (by decide)
    refine runF_rt ?_
    show sSeq _ _ [some (.imm (.list (ns.map .int))), none, none, none, none, none, none, none, none, none, none, none, none, none, none, none] = _
    have s1 : slU (.list (ns.map .int)) none (some 15) = some (.list ((ns.take 15).map .int)) := by
      show some (Dat.list (L3.cutD (ns.map Dat.int) none (some ((15 : Nat) : Int)))) = _
      rw [cut_hi, List.map_take]
    have hcl : (ns.take 15).length ≤ 15 := by rw [List.length_take]; omega
    generalize ns.take 15 = cs0 at s1 hcl
    generalize Dat.list (ns.map .int) = dns at *
    refine (sSeq_nx (Γ' := [some (.imm (dns)), some (.imm (.list (cs0.map .int))), none, none, none, none, none, none, none, none, none, none, none, none, none, none]) (by simp! [fSlU, oSome, oNone, asI, s1])).trans ?_
    have hc : ∃ cs : List Int, ∀ g2 : Gam → Option Fl, sSeq (sIf (fTest (L3.f2 eqD (fVar 1) (fLst fNil))) (sSet 1 (fLst (fCons (fC (.int 0)) fNil))) sSkip) g2 [some (.imm (dns)), some (.imm (.list (cs0.map .int))), none, none, none, none, none, none, none, none, none, none, none, none, none, none] = g2 [some (.imm (dns)), some (.imm (.list (cs.map .int))), none, none, none, none, none, none, none, none, none, none, none, none, none, none] := by
      cases cs0 with
      | nil => exact ⟨[0], fun g2 => sSeq_nx ((sIf_t (by dsimp! [eqD_nil, z0])).trans (sSet_eq (d := .list [.int 0]) (by dsimp! [z1])))⟩
      | cons c cs =>
        refine ⟨c :: cs, fun g2 => sSeq_nx ((sIf_f ?_).trans rfl)⟩
        have en := eqD_cons c cs (ok_list (c :: cs) (by omega))
        generalize Dat.list ((c :: cs).map .int) = dc at *
        dsimp! [en, z0]
    obtain ⟨cs, hg⟩ := hc
    refine (hg _).trans ?_
    refine seq_ex (fun Γ => ∃ x2 x3 x4 x5 x6 x7 x8 x9 x10 x11 x12 x13 x14 x15, Γ = [some (.imm (dns)), some (.imm (.list (cs.map .int))), x2, x3, x4, x5, x6, x7, x8, x9, x10, x11, x12, x13, x14, x15]) ?_ ?_
    · refine for_nx (fun Γ => ∃ x2 x3 x4 x5 x6 x7 x8 x9 x10 x11 x12 x13 x14 x15, Γ = [some (.imm (dns)), some (.imm (.list (cs.map .int))), x2, x3, x4, x5, x6, x7, x8, x9, x10, x11, x12, x13, x14, x15]) (d := .list (cs.map .int)) (ds := cs.map .int) rfl rfl ⟨none, none, none, none, none, none, none, none, none, none, none, none, none, none, rfl⟩ ?_
      rintro _ hd Γ ⟨x2, x3, x4, x5, x6, x7, x8, x9, x10, x11, x12, x13, x14, x15, rfl⟩
      obtain ⟨c, _, rfl⟩ := List.mem_map.mp hd
      refine turn_of (as := [(2, .int c)]) rfl ?_
      generalize Dat.list (cs.map .int) = dcs
      show ∃ Γ', sSeq _ _ [some (.imm (dns)), some (.imm (dcs)), some (.imm (.int c)), x3, x4, x5, x6, x7, x8, x9, x10, x11, x12, x13, x14, x15] = _ ∧ _
      have hR := rl0_ok c
      have er := F_reel_ok c
      generalize rl0 c = r0 at hR er
      refine exS (Γ1 := [some (.imm (dns)), some (.imm (dcs)), some (.imm (.int c)), some (.own (rD r0)), x4, x5, x6, x7, x8, x9, x10, x11, x12, x13, x14, x15]) (by simp! [er]) ?_
      have f3 := F_take_ok (m := 3) hR (by decide) (by decide)
      have b3 := tk_bd r0 (m := 3) (by decide)
      have R1 := tr_ok (m := 3) hR
      generalize tk r0 3 = t3 at f3 b3
      generalize tr r0 3 = r1 at f3 R1
      obtain ⟨m, hm⟩ : ∃ m : Nat, 1 + t3 = (m : Int) := ⟨(1 + t3).toNat, by omega⟩
      refine exS (Γ1 := [some (.imm (dns)), some (.imm (dcs)), some (.imm (.int c)), some (.own (rD r1)), some (.imm (nat m)), x5, x6, x7, x8, x9, x10, x11, x12, x13, x14, x15]) (by simp! [f3, addD_int, hm]) ?_
      obtain ⟨_, _, ⟨os, ws, vs, r2, j, rfl, rfl, R2, hK, hj1, hj4⟩, eP⟩ := hP r1 m R1 (by omega)
      have kol := hK.hi
      have klo := hK.lo
      have klw := hK.lw
      have klv := hK.lv
      refine exS (Γ1 := [some (.imm (dns)), some (.imm (dcs)), some (.imm (.int c)), some (.own (rD r2)), some (.imm (nat m)), some (.imm (.list (os.map oD))), some (.imm (.list (ws.map frD))), some (.imm (.list (vs.map frD))), x8, x9, x10, x11, x12, x13, x14, x15]) (by simp! [eP]) ?_
      have eT := hT m _ os ws (by omega) (bud_all hK.lw hK.ok hK.sw) (by omega)
      have sT := hK.sq
      obtain ⟨y1, y2⟩ := both_yes hK
      generalize tog m (os.zip ws) = XB at eT sT y1 y2
      obtain ⟨X, B⟩ := XB
      have sw10 : ∀ x ∈ ws, Sq 10 x := fun x hx => (hK.sw x hx).up (by decide)
      have sv10 : ∀ x ∈ vs, Sq 10 x := fun x hx => (hK.sv x hx).up (by decide)
      have g0 : ∀ {ws' : List (Int × Int)}, (∀ x ∈ ws', Sq 10 x) → Gi m X B os ws' := fun h => ⟨sT.len, by omega, fun x hx => (sT.sq x hx).up (by omega), sT.bd.up (by omega), by omega, hK.ok, h⟩
      have eI := hI m X B os ws vs (g0 sw10) sv10
      have y1 : K15.hR X B os ws = true := y1
      have y2 : K15.hR (X.map ng) (ng B) os vs = true := y2
      rw [y1, y2] at eI
      refine exS (Γ1 := [some (.imm (dns)), some (.imm (dcs)), some (.imm (.int c)), some (.own (rD r2)), some (.imm (nat m)), some (.imm (.list (os.map oD))), some (.imm (.list (ws.map frD))), some (.imm (.list (vs.map frD))), some (.imm (frsD X)), some (.imm (frD B)), x10, x11, x12, x13, x14, x15]) (by simp! [eT]) ?_
      refine exS (Γ1 := [some (.imm (dns)), some (.imm (dcs)), some (.imm (.int c)), some (.own (rD r2)), some (.imm (nat m)), some (.imm (.list (os.map oD))), some (.imm (.list (ws.map frD))), some (.imm (.list (vs.map frD))), some (.imm (frsD X)), some (.imm (frD B)), some (.imm (lineD "=" X B)), x11, x12, x13, x14, x15]) (by simp! [z3]) ?_
      have l1 : listD [.list (os.map oD)] = some (os.map oD) := rfl
      have l2 : listD [.list (ws.map frD)] = some (ws.map frD) := rfl
      have l3 : listD [.list (vs.map frD)] = some (vs.map frD) := rfl
      have nb : notUD (.bool (true && true)) (.bool true) = some (.bool false) := rfl
      refine exS (Γ1 := [some (.imm (dns)), some (.imm (dcs)), some (.imm (.int c)), some (.own (rD r2)), some (.imm (nat m)), some (.imm (.list (os.map oD))), some (.imm (.list (ws.map frD))), some (.imm (.list (vs.map frD))), some (.imm (frsD X)), some (.imm (frD B)), some (.imm (lineD "=" X B)), x11, x12, x13, x14, x15]) ((sIf_f ?_).trans rfl) ?_
      · generalize lineD "=" X B = dl at *
        generalize os.map oD = dos at *
        generalize ws.map frD = dws at *
        generalize vs.map frD = dvs at *
        simp! [l1, l2, l3, z2, eI, nb]
      obtain ⟨_, _, ⟨w1, w2, r3, rfl, rfl, R3, sw1, sw2⟩, eB⟩ := hB r2 ws vs R2 (by omega) (by omega) (by omega) hK.sw hK.sv
      refine exS (Γ1 := [some (.imm (dns)), some (.imm (dcs)), some (.imm (.int c)), some (.own (rD r3)), some (.imm (nat m)), some (.imm (.list (os.map oD))), some (.imm (.list (ws.map frD))), some (.imm (.list (vs.map frD))), some (.imm (frsD X)), some (.imm (frD B)), some (.imm (lineD "=" X B)), some (.imm (.tuple [.list (w1.map frD), .list (w2.map frD)])), x12, x13, x14, x15]) (by simp! [z2, eB]) ?_
      have u1 := hU m X B os w1 w2 (g0 sw1) sw2
      have sB : Sq 300 B := sT.bd.up (by omega)
      have ep : F_lplus [frD B, frD (1, 7)] = some (frD (pl B (1, 7))) := F_pl sB sq17 (by decide) (by decide)
      have gp : Gi m X (pl B (1, 7)) os w1 := ⟨(g0 sw1).len, (g0 sw1).le, (g0 sw1).sx, (sB.pl sq17).up (by decide), (g0 sw1).ol, (g0 sw1).ok, sw1⟩
      have u2 := hU m X (pl B (1, 7)) os w1 w2 gp sw2
      generalize pl B (1, 7) = B7 at ep u2
      refine exS (Γ1 := [some (.imm (dns)), some (.imm (dcs)), some (.imm (.int c)), some (.own (rD r3)), some (.imm (nat m)), some (.imm (.list (os.map oD))), some (.imm (.list (ws.map frD))), some (.imm (.list (vs.map frD))), some (.imm (frsD X)), some (.imm (frD B)), some (.imm (lineD "=" X B)), some (.imm (.tuple [.list (w1.map frD), .list (w2.map frD)])), some (.imm (lineD "=" X B7)), x13, x14, x15]) ?_ ?_
      · have ef : F_lplus [fr B.1 B.2, .tuple [.int 1, .int 7]] = some (frD B7) := ep
        rw [sFor_items (d := .list [lineD "=" X B, lineD "=" X B7]) (ds := [lineD "=" X B, lineD "=" X B7]) (by
          simp! [z2, z3, ep, ef]) rfl]
        generalize Dat.list (os.map oD) = dos at *
        generalize Dat.tuple [.list (w1.map frD), .list (w2.map frD)] = dw at *
        generalize lineD "=" X B = dl at *
        generalize lineD "=" X B7 = dl7 at *
        rw [forL_nx (as := [(12, dl)]) rfl (Γ' := [some (.imm (dns)), some (.imm (dcs)), some (.imm (.int c)), some (.own (rD r3)), some (.imm (nat m)), some (.imm (dos)), some (.imm (.list (ws.map frD))), some (.imm (.list (vs.map frD))), some (.imm (frsD X)), some (.imm (frD B)), some (.imm (dl)), some (.imm (dw)), some (.imm (dl)), x13, x14, x15]) ((sIf_f (by simp! [u1])).trans rfl)]
        rw [forL_nx (as := [(12, dl7)]) rfl (Γ' := [some (.imm (dns)), some (.imm (dcs)), some (.imm (.int c)), some (.own (rD r3)), some (.imm (nat m)), some (.imm (dos)), some (.imm (.list (ws.map frD))), some (.imm (.list (vs.map frD))), some (.imm (frsD X)), some (.imm (frD B)), some (.imm (dl)), some (.imm (dw)), some (.imm (dl7)), x13, x14, x15]) ((sIf_f (by simp! [u2])).trans rfl)]
        rfl
      obtain ⟨_, _, ⟨o, a1, a2, r4, rfl, rfl, R4, hOo, sa1, sa2, la1, la2⟩, eW⟩ := hW r3 m R3 (by omega)
      refine exS (Γ1 := [some (.imm (dns)), some (.imm (dcs)), some (.imm (.int c)), some (.own (rD r4)), some (.imm (nat m)), some (.imm (.list (os.map oD))), some (.imm (.list (ws.map frD))), some (.imm (.list (vs.map frD))), some (.imm (frsD X)), some (.imm (frD B)), some (.imm (lineD "=" X B)), some (.imm (.tuple [.list (w1.map frD), .list (w2.map frD)])), some (.imm (lineD "=" X B7)), some (.imm (.list ([o, o].map oD))), some (.imm (.list (a1.map frD))), some (.imm (.list (a2.map frD)))]) (by simp! [eW]) ?_
      have k1 := addW oD os [o, o] (by show os.length + 2 ≤ 1000; omega)
      have k2 := addW frD ws a1 (by omega)
      have k3 := addW frD vs a2 (by omega)
      have g3 : Gi m X B (os ++ [o, o]) (ws ++ a1) := ⟨(g0 sw1).len, (g0 sw1).le, (g0 sw1).sx, (g0 sw1).sb, by rw [List.length_append]; show os.length + 2 ≤ 20; omega, mem_app2 hK.ok hOo hOo, mem_app3 sw10 sa1⟩
      have u3 := hU m X B (os ++ [o, o]) (ws ++ a1) (vs ++ a2) g3 (mem_app3 sv10 sa2)
      refine exS (Γ1 := [some (.imm (dns)), some (.imm (dcs)), some (.imm (.int c)), some (.own (rD r4)), some (.imm (nat m)), some (.imm (.list (os.map oD))), some (.imm (.list (ws.map frD))), some (.imm (.list (vs.map frD))), some (.imm (frsD X)), some (.imm (frD B)), some (.imm (lineD "=" X B)), some (.imm (.tuple [.list (w1.map frD), .list (w2.map frD)])), some (.imm (lineD "=" X B7)), some (.imm (.list ([o, o].map oD))), some (.imm (.list (a1.map frD))), some (.imm (.list (a2.map frD)))]) ((sIf_f ?_).trans rfl) ?_
      · generalize lineD "=" X B = dl at *
        generalize Dat.list ((os ++ [o, o]).map oD) = e1 at *
        generalize Dat.list ((ws ++ a1).map frD) = e2 at *
        generalize Dat.list ((vs ++ a2).map frD) = e3 at *
        generalize Dat.list ([o, o].map oD) = e4 at *
        generalize Dat.list (os.map oD) = e5 at *
        generalize Dat.list (ws.map frD) = e6 at *
        generalize Dat.list (vs.map frD) = e7 at *
        generalize Dat.list (a1.map frD) = e8 at *
        generalize Dat.list (a2.map frD) = e9 at *
        simp! [k1, k2, k3, z2, u3]
      obtain ⟨_, _, ⟨xs', b', os', v1, v2, r5, rfl, rfl, R5, g5, sv2⟩, eO⟩ := hO r4 m R4 (by omega)
      have u4 := hU m xs' b' os' v1 v2 g5 sv2
      refine exS (Γ1 := [some (.imm (dns)), some (.imm (dcs)), some (.imm (.int c)), some (.own (rD r5)), some (.imm (nat m)), some (.imm (.list (os'.map oD))), some (.imm (.list (ws.map frD))), some (.imm (.list (vs.map frD))), some (.imm (frsD X)), some (.imm (frD B)), some (.imm (lineD "=" xs' b')), some (.imm (.tuple [.list (v1.map frD), .list (v2.map frD)])), some (.imm (lineD "=" X B7)), some (.imm (.list ([o, o].map oD))), some (.imm (.list (a1.map frD))), some (.imm (.list (a2.map frD)))]) (by simp! [eO]) ?_
      refine ⟨_, (sIf_f ?_).trans rfl, _, _, _, _, _, _, _, _, _, _, _, _, _, _, rfl⟩
      generalize lineD "=" xs' b' = dl at *
      simp! [u4]
    · rintro Γ ⟨x2, x3, x4, x5, x6, x7, x8, x9, x10, x11, x12, x13, x14, x15, rfl⟩
      exact sRet_eq rfl
  · cases hF'
end
end
section
theorem all_mk {lw : PySem.W.OpenLaw} {w : World} {K : Fg} {h : Heap} {mg : Str → Option Value} {fa f : Addr} {od an : Option Addr} {sl : Array (Option Value)} {oc kV dc pm cd ct : Value} (X : K.In h) (G : h.Ns mainGlobals mg) (hfa : mg "law" = some (.ref fa))
    (U_common_divisor : FnAt K mg "common_divisor" (top 1) ["a", "b"])
    (U_make : FnAt K mg "make" (top 2) ["n", "d"])
    (U_plus : FnAt K mg "plus" (top 3) ["a", "b"])
    (U_times : FnAt K mg "times" (top 5) ["a", "b"])
    (U_below : FnAt K mg "below" (top 6) ["a", "b"])
    (U_is_kept : FnAt K mg "is_kept" (top 10) ["line", "kind", "bound"])
    (U_is_allowed : FnAt K mg "is_allowed" (top 11) ["others", "paper"])
    (U_put_together : FnAt K mg "put_together" (top 12) ["many", "others", "paper"])
    (U_is_half_right : FnAt K mg "is_half_right" (top 13) ["line", "others", "paper"])
    (U_minus : FnAt K mg "minus" (top 4) ["a", "b"])
    (U_halves : FnAt K mg "halves" (top 9) ["line"])
    (U_is_right : FnAt K mg "is_right" (top 14) ["line", "others", "paper"])
    (U__law_reel : FnAt K mg "_law_reel" (top 17) ["cell"])
    (U__law_take : FnAt K mg "_law_take" (top 18) ["reel", "many"])
    (U__law_make : FnAt K mg "_law_make" (top 19) ["n", "d"])
    (U__law_plus : FnAt K mg "_law_plus" (top 20) ["a", "b"])
    (U__law_times : FnAt K mg "_law_times" (top 21) ["a", "b"])
    (U__law_below : FnAt K mg "_law_below" (top 22) ["a", "b"])
    (U__law_fraction : FnAt K mg "_law_fraction" (top 23) ["reel", "great"])
    (U__law_line : FnAt K mg "_law_line" (top 24) ["reel", "many", "great"])
    (U__law_together : FnAt K mg "_law_together" (top 25) ["others", "weights", "many"])
    (U__law_right : FnAt K mg "_law_right" (top 26) ["kind", "parts", "bound", "others", "weights"])
    (U__law_turned : FnAt K mg "_law_turned" (top 27) ["parts", "bound"])
    (U__law_top : FnAt K mg "_law_top" (top 29) ["number"])
    (U__law_both : FnAt K mg "_law_both" (top 33) ["line", "others", "papers"])
    (U__law_is_as_due : FnAt K mg "_law_is_as_due" (top 34) ["line", "others", "papers"])
    (U__law_pair : FnAt K mg "_law_pair" (top 28) ["reel", "many"])
    (U__law_bent : FnAt K mg "_law_bent" (top 30) ["reel", "papers"])
    (U__law_twice_more : FnAt K mg "_law_twice_more" (top 31) ["reel", "many"])
    (U__law_of_one : FnAt K mg "_law_of_one" (top 32) ["reel", "many"])
    (Y_ZERO : ∃ a, TC K mg "ZERO" [.int (0), .int (1)] a)
    (a : PySem.W.nsIn K mainGlobals "law" = some (some (.ref f))) (l : K.lookup f = some ⟨oc, od, .func (PySem.W.fnOf "law" "law" (defArgs (top 35)) (defBody (top 35)) (defScope (top 35)) .none kV dc pm an cd ct), sl⟩) (c : PySem.W.codeIn K cd "law" = true) (k : PySem.W.keepIn K (.ref f) = true) (T : TX mg)
    : ∃ fd : FuncData, (∀ (s : Shared) (v : Value), BindsTo s fd ⟨[v], []⟩ [("script", v)]) ∧ ∀ base : Heap, K.In base → base.Ns mainGlobals mg → FnOk lw.prog w K mg base CX0 100 fa fd ["script"] (spLaw K) := by
  have e := hfa.symm.trans (PySem.W.mg_of X G a)
  cases e
  obtain ⟨_, Z_ZERO⟩ := Y_ZERO
  refine ⟨PySem.W.fnOf "law" "law" (defArgs (top 35)) (defBody (top 35)) (defScope (top 35)) .none kV dc pm an cd ct, fun s v => .of_eq rfl, fun base _ _ => ?_⟩
  have U_LAW := fun_mk (st := top 35) l c k
  have Z1 : TZ K mg _ := ⟨Z_ZERO.mg, Z_ZERO.tup⟩
  obtain ⟨_, _, F1, m1, b1⟩ := U_common_divisor.ex
  have D1 := d_cd (P := lw.prog) (w := w) (base := base) T F1 m1 b1
  obtain ⟨_, _, F2, m2, b2⟩ := U_make.ex
  have D2 := d_make T D1 F2 m2 b2
  obtain ⟨_, _, F3, m3, b3⟩ := U_plus.ex
  have D3 := d_plus T D2 F3 m3 b3
  obtain ⟨_, _, F4, m4, b4⟩ := U_times.ex
  have D4 := d_times T D2 F4 m4 b4
  obtain ⟨_, _, F5, m5, b5⟩ := U_below.ex
  have D5 := d_below T D2 F5 m5 b5
  obtain ⟨_, _, F6, m6, b6⟩ := U_is_kept.ex
  obtain ⟨Fk, D6, hk⟩ := d_kept T D5 F6 m6 b6
  obtain ⟨_, _, F7, m7, b7⟩ := U_is_allowed.ex
  obtain ⟨Fal, D7, hal, hal2⟩ := d_allowed T Z1 D5 F7 m7 b7
  obtain ⟨_, _, F8, m8, b8⟩ := U_put_together.ex
  obtain ⟨Fp, D8, hp⟩ := d_put T Z1 D3 D4 F8 m8 b8
  obtain ⟨_, _, F9, m9, b9⟩ := U_is_half_right.ex
  obtain ⟨Fh, D9, hh, hh2⟩ := d_half T Z1 D7 hal hal2 D8 hp D6 hk F9 m9 b9
  have D10 := d_minus T D2 U_minus
  obtain ⟨Fv, D11, hv⟩ := d_halves T Z1 D10 U_halves
  obtain ⟨Fi, D12, hi⟩ := d_isr2 T D9 ⟨hh, hh2⟩ (D11.up (by decide)) hv U_is_right
  obtain ⟨_, _, F13, m13, b13⟩ := U__law_reel.ex
  have D13 := d_reel (P := lw.prog) (w := w) (base := base) T F13 m13 b13
  obtain ⟨_, _, F14, m14, b14⟩ := U__law_take.ex
  have D14 := d_take (P := lw.prog) (w := w) (base := base) T F14 m14 b14
  obtain ⟨_, _, F15, m15, b15⟩ := U__law_make.ex
  have D15 := d_lmake (P := lw.prog) (w := w) (base := base) T F15 m15 b15
  obtain ⟨_, _, F16, m16, b16⟩ := U__law_plus.ex
  have D16 := d_lplus T D15 F16 m16 b16
  obtain ⟨_, _, F17, m17, b17⟩ := U__law_times.ex
  have D17 := d_ltimes T D15 F17 m17 b17
  obtain ⟨_, _, F18, m18, b18⟩ := U__law_below.ex
  have D18 := d_lbelow (P := lw.prog) (w := w) (base := base) T F18 m18 b18
  obtain ⟨_, _, F19, m19, b19⟩ := U__law_fraction.ex
  have D19 := d_frac T D14 D15 F19 m19 b19
  obtain ⟨_, _, F20, m20, b20⟩ := U__law_line.ex
  have D20 := d_line T (D14.up (by decide)) D19 F20 m20 b20
  obtain ⟨_, _, F21, m21, b21⟩ := U__law_together.ex
  obtain ⟨Ft, D21, ht⟩ := d_tog T D16 D17 F21 m21 b21
  obtain ⟨_, _, F22, m22, b22⟩ := U__law_right.ex
  obtain ⟨Fr, D22, hri⟩ := d_right T D21 ht (D18.up (by decide)) F22 m22 b22
  obtain ⟨_, _, F23, m23, b23⟩ := U__law_turned.ex
  obtain ⟨Fu, D23, hu⟩ := d_turned (P := lw.prog) (w := w) (base := base) T F23 m23 b23
  obtain ⟨Fto, D24, hto⟩ := d_top (P := lw.prog) (w := w) (base := base) T U__law_top
  obtain ⟨Fb, D25, hbo⟩ := d_both T D22 hri (D23.up (by decide)) hu U__law_both
  obtain ⟨Fd, D26, hdu⟩ := d_due T D12 hi (D25.up (by decide)) hbo U__law_is_as_due
  obtain ⟨FP, D27, hpa⟩ := d_pair T (D14.up (by decide)) (D15.up (by decide)) D20 (D23.up (by decide)) hu (D24.up (by decide)) hto U__law_pair
  obtain ⟨FB, D28, hbe⟩ := d_bent T (D14.up (by decide)) D16 U__law_bent
  obtain ⟨FT, D29, htw⟩ := d_twice T (D14.up (by decide)) D20 U__law_twice_more
  obtain ⟨FO, D30, hon⟩ := d_one T (D14.up (by decide)) (D15.up (by decide)) D20 (D17.up (by decide)) U__law_of_one
  have DL := d_law T (D13.up (by decide)) (D14.up (by decide)) (D27.up (by decide)) hpa (D21.up (by decide)) ht (D12.up (by decide)) hi (D28.up (by decide)) hbe (D16.up (by decide)) D26 hdu (D29.up (by decide)) htw (D30.up (by decide)) hon U_LAW
  exact (law_of DL fun ns hl => by unfold F_law; exact if_pos ⟨ns, rfl, hl⟩).mono (by decide)
end
end K15
open PySem PySem.W PyProof.Rows
local macro_rules | `(tactic| simp_all!) => `(tactic| (refine' L3.fnat (by assumption) (by assumption) ?a ?l ?c ?k ?b; (case a => k_is); (case l => k_is); (case c => k_is); (case k => k_is); (case b => intro _ _ _ _ _ _ us hl; rcases us with _ | ⟨_, _ | ⟨_, _ | ⟨_, _ | ⟨_, _ | ⟨_, _ | ⟨_, _⟩⟩⟩⟩⟩⟩ <;> first | rfl | cases hl)))
set_option maxRecDepth 100000 in
set_option maxHeartbeats 0 in
theorem PySem.Challenge.cw_stepjudge_k15_papers_of_two_holds : PySem.Challenge.rw_stepjudge_k15_papers_of_two.Holds := by
  w_on; o_law; k_head; (case hw => w_witness2)
  k_fill
  refine L3.walkL (k := 1) (by decide) (l := PySem.Challenge.rw_stepjudge_k15_papers_of_two) rfl rfl (fun w h Y => PySem.W.kIn_of Y) ?F
  case F =>
    intro w mg fa h KX G hmg
    refine' K15.all_mk KX G hmg ?u1 ?u2 ?u3 ?u4 ?u5 ?u6 ?u7 ?u8 ?u9 ?u10 ?u11 ?u12 ?u13 ?u14 ?u15 ?u16 ?u17 ?u18 ?u19 ?u20 ?u21 ?u22 ?u23 ?u24 ?u25 ?u26 ?u27 ?u28 ?u29 ?u30 ?t1 ?a ?l ?c ?k ⟨PySem.W.mg_none_of KX G ?z1, PySem.W.mg_none_of KX G ?z2, PySem.W.mg_none_of KX G ?z3, PySem.W.mg_none_of KX G ?z4, PySem.W.mg_none_of KX G ?z5, PySem.W.mg_none_of KX G ?z6, PySem.W.mg_none_of KX G ?z7, PySem.W.mg_none_of KX G ?z8, PySem.W.mg_none_of KX G ?z9, PySem.W.mg_none_of KX G ?z10, PySem.W.mg_none_of KX G ?z11, PySem.W.mg_none_of KX G ?z12⟩
    (case u1 => simp_all!)
    (case u2 => simp_all!)
    (case u3 => simp_all!)
    (case u4 => simp_all!)
    (case u5 => simp_all!)
    (case u6 => simp_all!)
    (case u7 => simp_all!)
    (case u8 => simp_all!)
    (case u9 => simp_all!)
    (case u10 => simp_all!)
    (case u11 => simp_all!)
    (case u12 => simp_all!)
    (case u13 => simp_all!)
    (case u14 => simp_all!)
    (case u15 => simp_all!)
    (case u16 => simp_all!)
    (case u17 => simp_all!)
    (case u18 => simp_all!)
    (case u19 => simp_all!)
    (case u20 => simp_all!)
    (case u21 => simp_all!)
    (case u22 => simp_all!)
    (case u23 => simp_all!)
    (case u24 => simp_all!)
    (case u25 => simp_all!)
    (case u26 => simp_all!)
    (case u27 => simp_all!)
    (case u28 => simp_all!)
    (case u29 => simp_all!)
    (case u30 => simp_all!)
    (case t1 => refine' L3.tc_mk KX G ?ta ?tl; (case ta => k_is); (case tl => k_is))
    (case a => k_is); (case l => k_is); (case c => k_is); (case k => k_is)
    (case z1 => k_is)
    (case z2 => k_is)
    (case z3 => k_is)
    (case z4 => k_is)
    (case z5 => k_is)
    (case z6 => k_is)
    (case z7 => k_is)
    (case z8 => k_is)
    (case z9 => k_is)
    (case z10 => k_is)
    (case z11 => k_is)
    (case z12 => k_is)
