import PyProof.Rows.All
import Wide.All
import OpenK.AllK
import Wide.FinOn
import PyProof.EqAt
import PyProof.EqKinds
import PyProof.TupleCall
import KE.BitLaws
import Open.SpecLaws
import KE.OsHead
import KE.OsGo
import PySem.Challenge.RW_livetable_s01_answers
section
set_option Elab.async false
set_option linter.all false
set_option maxRecDepth 100000
namespace L2
open PySem PySem.Spec PyProof.Rows
/-- a key: an int or a str -/
abbrev Key := Sum Int Str
def keyIs : Key → Value → Bool
  | .inl k, v => Value.isInt k v
  | .inr x, v => Value.isStrOf x v
def keyH (w : World) : Key → Int
  | .inl k => hashInt k
  | .inr x => hashStr w x
theorem keyIs_shape : ∀ {k : Key} {v : Value}, keyIs k v = true → (∃ i t, k = Sum.inl i ∧ v = Value.int i t) ∨ (∃ x t, k = Sum.inr x ∧ v = Value.str x t)
  | .inl i, v, h => by
    obtain ⟨t, e⟩ := Value.isInt_shape (k := i) (v := v) h
    exact .inl ⟨i, t, rfl, e⟩
  | .inr x, v, h => by
    obtain ⟨t, e⟩ := Value.isStrOf_shape (x := x) (v := v) h
    exact .inr ⟨x, t, rfl, e⟩
theorem keyIs_int (i : Int) (t : Tok) : keyIs (.inl i) (.int i t) = true := by simp [keyIs, Value.isInt]
theorem keyIs_str (x : Str) (t : Tok) : keyIs (.inr x) (.str x t) = true := by simp [keyIs, Value.isStrOf]
theorem key_ll (a b : Int) : decide ((Sum.inl a : Key) = Sum.inl b) = (a == b) := by
  by_cases e : a = b
  · subst e; simp
  · have h : ¬ (Sum.inl a : Key) = Sum.inl b := fun q => e (Sum.inl.inj q)
    rw [decide_eq_false h]
    exact (beq_eq_false_iff_ne.mpr e).symm
theorem key_rr (a b : Str) : decide ((Sum.inr a : Key) = Sum.inr b) = decide (a = b) := by
  by_cases e : a = b
  · subst e; simp
  · have h : ¬ (Sum.inr a : Key) = Sum.inr b := fun q => e (Sum.inr.inj q)
    rw [decide_eq_false h, decide_eq_false e]
theorem key_lr (a : Int) (b : Str) : decide ((Sum.inl a : Key) = Sum.inr b) = false := decide_eq_false (fun q => nomatch q)
theorem key_rl (a : Str) (b : Int) : decide ((Sum.inr a : Key) = Sum.inl b) = false := decide_eq_false (fun q => nomatch q)
def mixKind (prog : Program) (w : World) : PySem.KeyKind prog w Key where
  is := keyIs
  hash := keyH w
  inj := fun v a b ha hb => by
    rcases keyIs_shape ha with ⟨i, t, rfl, rfl⟩ | ⟨x, t, rfl, rfl⟩
    · rcases keyIs_shape hb with ⟨j, u, rfl, e⟩ | ⟨y, u, rfl, e⟩
      · injection e with e1 _; rw [e1]
      · exact nomatch e
    · rcases keyIs_shape hb with ⟨j, u, rfl, e⟩ | ⟨y, u, rfl, e⟩
      · exact nomatch e
      · injection e with e1 _; rw [e1]
  byValue := fun k v h => by
    rcases keyIs_shape h with ⟨i, t, rfl, rfl⟩ | ⟨x, t, rfl, rfl⟩ <;> rfl
  pyHash := fun hv h => by
    rcases keyIs_shape hv with ⟨i, t, rfl, rfl⟩ | ⟨x, t, rfl, rfl⟩
    · exact wpAny_pyHash_int h
    · exact wpAny_pyHash_str h
  eqBool := fun hu hv h => by
    rcases keyIs_shape hu with ⟨i, t, rfl, rfl⟩ | ⟨x, t, rfl, rfl⟩
    · rcases keyIs_shape hv with ⟨j, u, rfl, rfl⟩ | ⟨y, u, rfl, rfl⟩
      · rw [key_ll] at h; exact wpAny_eqBool_int h
      · rw [key_lr] at h; exact SeqAt.EqAt.int_str i t y u _ _ _ _ h
    · rcases keyIs_shape hv with ⟨j, u, rfl, rfl⟩ | ⟨y, u, rfl, rfl⟩
      · rw [key_rl] at h; exact SeqAt.EqAt.str_int x t j u _ _ _ _ h
      · rw [key_rr] at h; exact wpAny_eqBool_str h
  «strs» := fun k x t v h => by
    rcases keyIs_shape h with ⟨i, u, rfl, e⟩ | ⟨y, u, rfl, e⟩
    · exact nomatch e
    · injection e with e1 _
      subst e1
      cases v <;> rfl
theorem mixKind_int (prog : Program) (w : World) (i : Int) (t : Tok) : (mixKind prog w).is (.inl i) (.int i t) = true := keyIs_int i t
theorem mixKind_str (prog : Program) (w : World) (x : Str) (t : Tok) : (mixKind prog w).is (.inr x) (.str x t) = true := keyIs_str x t
end L2
namespace L2
open PySem PySem.Spec PyProof.Rows
/-- a value, without the heap -/
inductive V where
  | non | bl (b : Bool) | int (i : Int) | str (x : Str) | byt (b : Array UInt8) | flt (b : UInt64) | ref (a : Addr) | ty (n : String)
  deriving DecidableEq
def RelV : V → Value → Prop
  | .non, u => u = Value.none
  | .bl b, u => u = Value.bool b
  | .int i, u => ∃ t, u = Value.int i t
  | .str x, u => ∃ t, u = Value.str x t
  | .byt b, u => ∃ t, u = Value.bytes b t
  | .flt b, u => ∃ t, u = Value.float b t
  | .ref a, u => u = Value.ref a
  | .ty n, u => u = Value.type n
abbrev Vals : List V → List Value → Prop := Paired RelV
theorem Vals.length {xs : List V} {us : List Value} (r : Vals xs us) : xs.length = us.length := Paired.length r
theorem Vals.get : ∀ {xs : List V} {us : List Value} {i : Nat} {x : V}, Vals xs us → xs[i]? = some x → ∃ u, us[i]? = some u ∧ RelV x u
  | _, _, _, _, .nil, e => by simp at e
  | _, _, 0, _, .cons r _, e => by simp at e; subst e; exact ⟨_, rfl, r⟩
  | _, _, i + 1, x, .cons _ t, e => by
    obtain ⟨u, h1, h2⟩ := Vals.get (i := i) (x := x) t (by simpa using e)
    exact ⟨u, by simpa using h1, h2⟩
theorem Vals.set {x : V} {u : Value} (r : RelV x u) : ∀ {xs : List V} {us : List Value} (i : Nat), Vals xs us → Vals (xs.set i x) (us.set i u)
  | _, _, _, .nil => .nil
  | _, _, 0, .cons _ t => .cons r t
  | _, _, i + 1, .cons q t => .cons q (Vals.set r i t)
theorem Vals.append : ∀ {xs ys : List V} {us ws : List Value}, Vals xs us → Vals ys ws → Vals (xs ++ ys) (us ++ ws)
  | _, _, _, _, .nil, s => s
  | _, _, _, _, .cons r t, s => .cons r (Vals.append t s)
theorem Vals.take : ∀ {xs : List V} {us : List Value} (n : Nat), Vals xs us → Vals (xs.take n) (us.take n)
  | _, _, 0, _ => .nil
  | _, _, _ + 1, .nil => .nil
  | _, _, n + 1, .cons r t => .cons r (Vals.take n t)
theorem Vals.drop : ∀ {xs : List V} {us : List Value} (n : Nat), Vals xs us → Vals (xs.drop n) (us.drop n)
  | _, _, 0, r => r
  | _, _, _ + 1, .nil => .nil
  | _, _, n + 1, .cons _ t => Vals.drop n t
def RelO : Option V → Option Value → Prop
  | some v, some u => RelV v u
  | none, none => True
  | _, _ => False
def KV {κ : Type} : List (κ × V) → List (κ × Value) → Prop := Paired fun (p : κ × V) (q : κ × Value) => p.1 = q.1 ∧ RelV p.2 q.2
/-- a key of a dict (00_mix): an int or a text -/
def kV : Key → V
  | .inl i => .int i
  | .inr x => .str x
/-- what stands at a tracked address -/
inductive HO where
  /-- a list -/
  | lst (xs : List V)
  /-- a tuple (never changes) -/
  | tup (xs : List V)
  /-- a dict whose keys are ints and texts; one whose keys are tuples of ints and texts (the empty one is both) -/
  | dK (kvs : List (Key × V)) | dT (kvs : List (List Key × V))
  /-- a set of ints: its members, its size -/
  | set (S : Int → Bool) (n : Nat)
  /-- an instance of the class at C, its dict at dx, its attributes -/
  | ins (C dx : Addr) (fs : List (Str × V))
  /-- the dict of the instance at x -/
  | own (x : Addr)
  /-- the dict of an exception -/
  | xd (fs : List (Str × V))
  /-- a bound method, f of x -/
  | met (f x : Addr)
  /-- a range object lo, lo + 1, .. below hi -/
  | rng (lo hi : Int)
  /-- a thing that is known to the object (the script; a dict while a loop walks it): read, never written while it is so -/
  | frz (o : Obj) (u : HO)
  /-- a code object's table -/
  | tbl (ps : Array Value)
  /-- any other thing, by what is true of its one object (a def of one's own: SetO a S n := HO.ext fun h => ..) -/
  | ext (φ : Heap → Prop)
abbrev Hp := Addr → Option HO
def upd (H : Hp) (a : Addr) (o : HO) : Hp := fun b => if b = a then some o else H b
theorem upd_same {H : Hp} {a : Addr} {o : HO} : upd H a o a = some o := by unfold upd; rw [if_pos rfl]
theorem upd_ne {H : Hp} {a b : Addr} {o : HO} (h : b ≠ a) : upd H a o b = H b := by unfold upd; rw [if_neg h]
theorem upd_upd {H : Hp} {a : Addr} {o u : HO} : upd (upd H a o) a u = upd H a u := by
  funext b; unfold upd; split <;> rfl
/-- two objects of different content stand apart -/
theorem ne_of {H : Hp} {a b : Addr} {o u : HO} (h : H a = some o) (h' : H b = some u) (d : o ≠ u) : a ≠ b := by
  intro e; subst e; rw [h] at h'; exact d (Option.some.inj h')
theorem ne_of_none {H : Hp} {a b : Addr} {o : HO} (h : H a = some o) (h' : H b = none) : a ≠ b := by
  intro e; subst e; rw [h] at h'; cases h'
section
variable (P : Program) (w : World)
def ObjOk (H : Hp) (h : Heap) (a : Addr) : HO → Prop
  | .lst xs => xs.length ≤ sizeLine ∧ ∃ (its : List Value) (n : Nat), Vals xs its ∧ h.get? a = some { cls := .type "list", data := .seq its.toArray n }
  | .tup xs => xs.length ≤ sizeLine ∧ ∃ its : List Value, Vals xs its ∧ IsTup h a its.toArray
  | .dK kvs => kvs.length ≤ sizeLine ∧ (a == sysModules) = false ∧ ∃ vs, KV kvs vs ∧ h.DictOf (mixKind P w) a vs
  | .dT kvs => kvs.length ≤ sizeLine ∧ (a == sysModules) = false ∧ ∃ xs : List (List Key × Addr × Value),
      Paired (fun (p : List Key × V) (q : List Key × Addr × Value) => p.1 = q.1 ∧ H q.2.1 = some (.tup (p.1.map kV)) ∧ RelV p.2 q.2.2) kvs xs ∧
      ∃ o es ep, h.get? a = some o ∧ o.ExactDict ∧ o.data = .dict es ep ∧ es.toList = xs.map (entryOfKey (tupleKind (mixKind P w))) ∧ (xs.map (·.1)).Nodup
  | .set S n => h.SetOf (intKind P w) a S n
  | .ins C dx fs => H dx = some (.own a) ∧ fs.length ≤ 1000 ∧ dx ≠ a ∧ h.get? a = some (PySem.W.instObj C dx) ∧
      ∃ mA, h.Ns1 dx mA ∧ (∀ f, RelO (fs.lookup f) (mA f)) ∧ PySem.Within mA (fs.map (·.1))
  | .own _ => ∃ o, h.get? a = some o
  | .xd fs => ∃ mA, h.Ns1 a mA ∧ ∀ f, RelO (fs.lookup f) (mA f)
  | .rng lo hi => ∃ t u v, h.get? a = some { cls := .type "range", data := .fields #[.int lo t, .int hi u, .int 1 v] }
  | .frz o u => h.get? a = some o ∧ ObjOk H h a u
  | .tbl ps => h.get? a = some { cls := .none, data := .fields ps }
  | .met f x => h.get? a = some (PySem.W.methodObj (.ref f) (.ref x))
  | .ext φ => φ h ∧ (∃ o, h.get? a = some o) ∧ ∀ h1 h2 : Heap, φ h1 → (∀ o, h1.get? a = some o → h2.get? a = some o) → φ h2
/-- the abstract heap is held -/
def HOk (H : Hp) (h : Heap) : Prop := ∀ a o, H a = some o → ObjOk P w H h a o
end
section
variable {P : Program} {w : World} {H H' : Hp} {h h' : Heap} {a : Addr} {o : HO}
theorem ObjOk.lt (x : ObjOk P w H h a o) : a < h.objs.size := by
  cases o with
  | lst xs => obtain ⟨_, _, _, _, e⟩ := x; exact Heap.lt_size e
  | tup xs => obtain ⟨_, _, _, p⟩ := x; exact p.lt
  | dK kvs => obtain ⟨_, _, _, _, o, _, _, e, _⟩ := x; exact Heap.lt_size e
  | dT kvs => obtain ⟨_, _, _, _, o, _, _, e, _⟩ := x; exact Heap.lt_size e
  | set S n => obtain ⟨o, _, _, _, e, _⟩ := x; exact Heap.lt_size e
  | ins C dx fs => obtain ⟨_, _, _, e, _⟩ := x; exact Heap.lt_size e
  | own y => obtain ⟨_, e⟩ := x; exact Heap.lt_size e
  | xd fs => obtain ⟨_, ⟨_, _, _, e, _⟩, _⟩ := x; exact Heap.lt_size e
  | rng lo hi => obtain ⟨_, _, _, e⟩ := x; exact Heap.lt_size e
  | frz ob u => obtain ⟨e, _⟩ := x; exact Heap.lt_size e
  | tbl ps => exact Heap.lt_size (show h.get? a = some _ from x)
  | met f y => exact Heap.lt_size (show h.get? a = some _ from x)
  | ext φ => obtain ⟨_, ⟨_, e⟩, _⟩ := x; exact Heap.lt_size e
theorem Paired.mapP {α β : Type} {F G : α → β → Prop} : ∀ {l₁ : List α} {l₂ : List β}, Paired F l₁ l₂ → (∀ a b, F a b → G a b) → Paired G l₁ l₂
  | _, _, .nil, _ => .nil
  | _, _, .cons r t, f => .cons (f _ _ r) (Paired.mapP t f)
/-- what an object's description leans on: its own object, its own dict, the tuples -/
theorem ObjOk.stay (x : ObjOk P w H h a o) (k : ∀ b u, (b = a ∨ H b = some (.own a)) → h.get? b = some u → h'.get? b = some u)
    (ho : ∀ b, H b = some (.own a) → H' b = some (.own a)) (ht : ∀ b xs, H b = some (.tup xs) → H' b = some (.tup xs)) : ObjOk P w H' h' a o := by
  induction o with
  | lst xs => obtain ⟨z, its, n, r, e⟩ := x; exact ⟨z, its, n, r, k _ _ (.inl rfl) e⟩
  | tup xs => obtain ⟨z, its, r, ob, e, c⟩ := x; exact ⟨z, its, r, ob, k _ _ (.inl rfl) e, c⟩
  | dK kvs => obtain ⟨z, y, vs, r, ob, es, ep, e, c⟩ := x; exact ⟨z, y, vs, r, ob, es, ep, k _ _ (.inl rfl) e, c⟩
  | dT kvs =>
    obtain ⟨z, y, xs, r, ob, es, ep, e, c⟩ := x
    exact ⟨z, y, xs, Paired.mapP r fun p q z => ⟨z.1, ht _ _ z.2.1, z.2.2⟩, ob, es, ep, k _ _ (.inl rfl) e, c⟩
  | set S n => obtain ⟨ob, es, ep, t, e, c⟩ := x; exact ⟨ob, es, ep, t, k _ _ (.inl rfl) e, c⟩
  | ins C dx fs =>
    obtain ⟨d, z, ne, e, mA, ⟨od, es, ep, e2, c⟩, r⟩ := x
    exact ⟨ho _ d, z, ne, k _ _ (.inl rfl) e, mA, ⟨od, es, ep, k _ _ (.inr d) e2, c⟩, r⟩
  | own y => obtain ⟨ob, e⟩ := x; exact ⟨ob, k _ _ (.inl rfl) e⟩
  | xd fs => obtain ⟨mA, ⟨od, es, ep, e, c⟩, r⟩ := x; exact ⟨mA, ⟨od, es, ep, k _ _ (.inl rfl) e, c⟩, r⟩
  | rng lo hi => obtain ⟨t, u, v, e⟩ := x; exact ⟨t, u, v, k _ _ (.inl rfl) e⟩
  | frz ob u ih => obtain ⟨e, q⟩ := x; exact ⟨k _ _ (.inl rfl) e, ih q⟩
  | tbl ps =>
    have e : h.get? a = some { cls := .none, data := .fields ps } := x
    show h'.get? a = some { cls := .none, data := .fields ps }
    exact k a _ (.inl rfl) e
  | met f y =>
    have e : h.get? a = some (PySem.W.methodObj (.ref f) (.ref y)) := x
    show h'.get? a = some (PySem.W.methodObj (.ref f) (.ref y))
    exact k a _ (.inl rfl) e
  | ext φ => obtain ⟨p, ⟨o, e⟩, st⟩ := x; exact ⟨st _ _ p fun o q => k _ _ (.inl rfl) q, ⟨o, k _ _ (.inl rfl) e⟩, st⟩
theorem HOk.lt (x : HOk P w H h) (e : H a = some o) : a < h.objs.size := (x a o e).lt
theorem HOk.fresh (x : HOk P w H h) (e : h.objs.size ≤ a) : H a = none := by
  cases q : H a with
  | none => rfl
  | some u => exact absurd (Nat.lt_of_lt_of_le (x.lt q) e) (Nat.lt_irrefl _)
/-- every object of the heap is kept -/
theorem HOk.kept (x : HOk P w H h) (k : ∀ b u, h.get? b = some u → h'.get? b = some u) : HOk P w H h' := fun a o e =>
  (x a o e).stay (fun b u _ q => k b u q) (fun _ q => q) fun _ _ q => q
/-- a new object is laid and tracked -/
theorem HOk.laid (x : HOk P w H h) (k : ∀ b u, h.get? b = some u → h'.get? b = some u) (hp : h.objs.size ≤ a) (new : ObjOk P w (upd H a o) h' a o) : HOk P w (upd H a o) h' := fun b u e => by
  have hn := x.fresh hp
  by_cases hb : b = a
  · subst hb; rw [upd_same] at e; cases e; exact new
  · rw [upd_ne hb] at e
    exact (x b u e).stay (fun c v _ q => k c v q) (fun c q => by rw [upd_ne (ne_of_none q hn)]; exact q) fun c xs q => by rw [upd_ne (ne_of_none q hn)]; exact q
end
/-- what may be read as u: it is u, or a known u -/
def Rd (H : Hp) (a : Addr) (u : HO) : Prop := H a = some u ∨ ∃ o, H a = some (.frz o u)
theorem Rd.ok {P : Program} {w : World} {H : Hp} {h : Heap} {a : Addr} {u : HO} (r : Rd H a u) (x : HOk P w H h) : ObjOk P w H h a u := by
  rcases r with r | ⟨o, r⟩
  · exact x a u r
  · obtain ⟨_, q⟩ := x a _ r
    exact q
/-- what may be written -/
def Mut : Option HO → Prop
  | some (.lst _) => True
  | some (.dK _) => True
  | some (.dT _) => True
  | some (.set _ _) => True
  | some (.ins _ _ _) => True
  | some (.ext _) => True
  | _ => False
section
variable {P : Program} {w : World} {H : Hp} {h h' : Heap} {x e : Addr} {o' : HO}
/-- the object at e is changed: x itself, or the dict of the instance x -/
theorem HOk.write (ok : HOk P w H h) (mu : Mut (H x)) (he : e = x ∨ H e = some (.own x)) (k : ∀ b u, b ≠ e → h.get? b = some u → h'.get? b = some u) (heo : ∃ u, h'.get? e = some u)
    (new : ObjOk P w (upd H x o') h' x o') : HOk P w (upd H x o') h' := fun b u q => by
  have nown : ∀ c y, H c = some (.own y) → c ≠ x := fun c y r z => by subst z; rw [r] at mu; exact mu
  have ntup : ∀ c xs, H c = some (.tup xs) → c ≠ x := fun c xs r z => by subst z; rw [r] at mu; exact mu
  by_cases hb : b = x
  · subst hb; rw [upd_same] at q; cases q; exact new
  · rw [upd_ne hb] at q
    by_cases hbe : b = e
    · have q' : H b = some (.own x) := by
        rcases he with z | z
        · exact absurd (hbe.trans z) hb
        · rw [hbe]; exact z
      rw [q] at q'; cases q'
      obtain ⟨v, hv⟩ := heo
      exact ⟨v, by rw [hbe]; exact hv⟩
    · refine (ok b u q).stay (fun c v hc r => k c v ?_ r) (fun c r => by rw [upd_ne (nown c b r)]; exact r) fun c xs r => by rw [upd_ne (ntup c xs r)]; exact r
      rcases hc with rfl | hc
      · exact hbe
      · rintro rfl
        rcases he with z | z
        · exact nown c b hc z
        · rw [hc] at z; cases z; exact hb rfl
end
/-! ### kept unless tracked; of the frames at fs (the callers') the slots may change (an exception that passes writes there); of the records at ex (iterators) nothing is said -/
structure Un (fs ex : List Addr) (H H' : Hp) (h h' : Heap) : Prop where
  keep : ∀ b o, h.get? b = some o → H b = none → b ∉ fs → b ∉ ex → h'.get? b = some o
  slot : ∀ b o, h.get? b = some o → H b = none → b ∈ fs → b ∉ ex → ∃ sl, h'.get? b = some { o with slots := sl }
  free : ∀ b o, h.get? b = some o → H b = none → b ∉ ex → H' b = none
  there : ∀ b o, h.get? b = some o → b ∉ ex → ∃ o', h'.get? b = some o'
  tups : ∀ b xs, H b = some (.tup xs) → H' b = some (.tup xs)
  frzs : ∀ b o u, H b = some (.frz o u) → H' b = some (.frz o u)
  tbls : ∀ b ps, H b = some (.tbl ps) → ∃ more, H' b = some (.tbl (ps ++ more))
section
variable {fs fs' ex ex' : List Addr} {H H1 H2 : Hp} {h h1 h2 h' : Heap} {a x e : Addr} {o : HO}
theorem Un.any (u : Un fs ex H H1 h h1) {b : Addr} {ob : Obj} (q : h.get? b = some ob) (n : H b = none) (hx : b ∉ ex) : ∃ sl, h1.get? b = some { ob with slots := sl } := by
  by_cases hb : b ∈ fs
  · exact u.slot b ob q n hb hx
  · exact ⟨ob.slots, u.keep b ob q n hb hx⟩
theorem Un.kept (k : ∀ b u, h.get? b = some u → h'.get? b = some u) : Un fs ex H H h h' :=
  ⟨fun b ob q _ _ _ => k b ob q, fun b ob q _ _ _ => ⟨ob.slots, k b ob q⟩, fun _ _ _ n _ => n, fun b ob q _ => ⟨ob, k b ob q⟩, fun _ _ q => q, fun _ _ _ q => q, fun _ ps q => ⟨#[], by rw [q]; simp⟩⟩
theorem Un.refl : Un fs ex H H h h := Un.kept fun _ _ q => q
theorem Un.laid (k : ∀ b u, h.get? b = some u → h'.get? b = some u) (hp : h.objs.size ≤ a) (hn : H a = none) : Un fs ex H (upd H a o) h h' where
  keep := fun b u q _ _ _ => k b u q
  slot := fun b u q _ _ _ => ⟨u.slots, k b u q⟩
  free := fun b u q n _ => by rw [upd_ne (Nat.ne_of_lt (Nat.lt_of_lt_of_le (Heap.lt_size q) hp))]; exact n
  there := fun b u q _ => ⟨u, k b u q⟩
  tups := fun b xs q => by rw [upd_ne (ne_of_none q hn)]; exact q
  frzs := fun b u xs q => by rw [upd_ne (ne_of_none q hn)]; exact q
  tbls := fun b ps q => ⟨#[], by rw [upd_ne (ne_of_none q hn), q]; simp⟩
theorem Un.write (mu : Mut (H x)) (he : e = x ∨ H e = some (.own x)) (k : ∀ b u, b ≠ e → h.get? b = some u → h'.get? b = some u) (heo : ∃ u, h'.get? e = some u) : Un fs ex H (upd H x o) h h' := by
  have hx : ∀ b, H b = none → b ≠ x := fun b n z => by subst z; rw [n] at mu; exact mu
  have hb : ∀ b, H b = none → b ≠ e := fun b n z => by
    subst z
    rcases he with r | r
    · exact hx b n r
    · rw [n] at r; cases r
  have hm : ∀ b u, H b = some u → ¬ Mut (some u) → b ≠ x := fun b u q nm z => by subst z; rw [q] at mu; exact nm mu
  refine ⟨fun b u q n _ _ => k b u (hb b n) q, fun b u q n _ _ => ⟨u.slots, k b u (hb b n) q⟩, fun b u q n _ => by rw [upd_ne (hx b n)]; exact n, fun b u q _ => ?_,
    fun b xs q => by rw [upd_ne (hm b _ q fun z => z)]; exact q, fun b u xs q => by rw [upd_ne (hm b _ q fun z => z)]; exact q, fun b ps q => ⟨#[], by rw [upd_ne (hm b _ q fun z => z), q]; simp⟩⟩
  by_cases hbe : b = e
  · subst hbe; exact heo
  · exact ⟨u, k b u hbe q⟩
end
/-! ### the heap without what is tracked -/
def trk (h : Heap) (H : Hp) : List Addr := (List.range h.objs.size).filter fun a => (H a).isSome
def hidT (h : Heap) (H : Hp) : Heap := PySem.W.hideAll h (trk h H)
theorem hidT_size (h : Heap) (H : Hp) : (hidT h H).objs.size = h.objs.size := PySem.W.hideAll_size _ _
theorem hidT_get {h : Heap} {H : Hp} {b : Addr} {o : Obj} (e : h.get? b = some o) (n : H b = none) : (hidT h H).get? b = some o :=
  PySem.W.hideAll_get _ e fun hm => by
    have q : (H b).isSome = true := (List.mem_filter.mp hm).2
    rw [n] at q; simp at q
theorem of_hidT {h : Heap} {H : Hp} {b : Addr} {o : Obj} (e : (hidT h H).get? b = some o) : h.get? b = some o ∧ H b = none := by
  have e' : h.get? b = some o := PySem.W.of_hideAll (trk h H) e
  refine ⟨e', ?_⟩
  cases q : H b with
  | none => rfl
  | some x =>
    have hm : b ∈ trk h H := List.mem_filter.mpr ⟨List.mem_range.mpr (Heap.lt_size e'), by simp [q]⟩
    have z : (hidT h H).get? b = none := PySem.W.hideAll_none (trk h H) hm
    rw [z] at e; cases e
/-! ### OpenK's ledger, filled with every new object but one -/
def allNews (g h : Heap) (L : Addr) : List (Addr × Obj) := (List.range h.objs.size).filterMap fun a => if a = L ∨ (g.get? a).isSome = true then none else (h.get? a).map fun o => (a, o)
def rest (g h : Heap) (L d : Addr) : List (Addr × Obj) := (allNews g h L).filter fun p => decide (p.1 ≠ d)
end L2
namespace L2
open PySem PySem.Spec PyProof.Rows
/-- the module's facts, over the base: the heap at the law's entry without what is tracked there -/
structure Mod (K : PySem.W.Frag) (mg : Str → Option Value) (base : Heap) : Prop where
  kin : K.In base
  glob : base.Ns mainGlobals mg
  blt : ∃ mb, base.Ns builtinsNs mb ∧ ∀ x : Str, x ≠ "__name__" → mb x = bootBuiltins x
  nolimit : base.NoLimit
/-- the context: a def's body (or a comprehension's block) running. base: fixed through the whole law; s₀, H₀: the entry; outer: the frames whose slots others may change (a def's callers); stack: all frames that run;
   ex: iterators that were made ahead of the entry and are walked here (a comprehension's); fn: the names whose cells were made at the entry (a def: all; a comprehension's block: its own); calm: not within an except suite; pn: pins that every state bears; xe: what is wanted of an exception that leaves the code -/
structure Cx where
  prog : Program
  w : World
  K : PySem.W.Frag
  mg : Str → Option Value
  base : Heap
  A : Around
  N : List Str
  s_0 : Shared
  H_0 : Hp
  env : Env
  outer : List Env
  stack : List Env
  ex : List Addr
  fn : Str → Bool
  calm : Bool
  pn : List (Addr × Obj)
  xe : Value → Shared → Prop
/-- the callers' frames -/
def frs (l : List Env) : List Addr := l.filterMap (·.frame)
abbrev Cx.fs (X : Cx) : List Addr := frs X.outer
def Vis (sc : Scope) (x : Str) : Prop := sc.names.lookup x = some .local ∨ sc.names.lookup x = some .cell ∨ sc.names.lookup x = some .free
def Loc (sc : Scope) (x : Str) : Prop := sc.names.lookup x = some .local ∨ sc.names.lookup x = some .cell
def Look (env : Env) (h : Heap) (m : Str → Option Value) (x : Str) (u : Value) : Prop :=
  (env.kindOf x = some .local ∧ m x = some u) ∨ ((env.kindOf x = some .cell ∨ env.kindOf x = some .free) ∧ ∃ c, env.cells.lookup x = some c ∧ h.IsCell c (some u))
structure Cx.Ok (X : Cx) : Prop where
  mod : Mod X.K X.mg X.base
  kind : X.env.scope.kind = .function
  glob : X.env.globals = mainGlobals
  blt : X.env.builtins = builtinsNs
  above : X.s_0.heap.objs.size ≤ X.env.locals
  inj : ∀ x y c, X.env.cells.lookup x = some c → X.env.cells.lookup y = some c → x = y
  has : ∀ x, (X.env.kindOf x = some .cell ∨ X.env.kindOf x = some .free) → ∃ c, X.env.cells.lookup x = some c
  cab : ∀ x c, X.fn x = true → X.env.cells.lookup x = some c → X.s_0.heap.objs.size ≤ c
  hd : X.calm = true → X.A.handled = none
  frames : X.A.frames = some X.stack
  stk : X.stack = X.outer ∨ (X.stack = X.env :: X.outer ∧ X.env.frame = some X.env.locals)
  exf : ∀ b ∈ X.ex, b ≠ X.env.locals ∧ ∀ x c, X.env.cells.lookup x = some c → c ≠ b
  bs : ∀ b o, X.base.get? b = some o → X.s_0.heap.get? b = some o ∧ X.H_0 b = none
  bsz : X.base.objs.size ≤ X.s_0.heap.objs.size
  noex : ∀ b o, X.base.get? b = some o → b ∉ X.ex
  exfs : ∀ b ∈ X.ex, b ∉ X.fs
  funs : X.s_0.heap.FunFrames X.base X.outer
  frf : ∀ b ∈ X.fs, X.H_0 b = none
structure Inv (X : Cx) (pins : List (Addr × Obj)) (σ : List (Option V)) (H : Hp) (s : Shared) : Prop where
  ok : X.Ok
  os : s.os = X.s_0.os
  bare : AllBare s.gens
  base : Un X.fs X.ex X.H_0 H X.s_0.heap s.heap
  loc : ∃ m, s.heap.Ns X.env.locals m ∧ ∀ (i : Nat) (x : Str) (v : V), X.N[i]? = some x → σ[i]? = some (some v) → Vis X.env.scope x → ∃ u, RelV v u ∧ Look X.env s.heap m x u
  cell : ∀ x c, X.env.cells.lookup x = some c → ∃ v, s.heap.IsCell c v
  free : H X.env.locals = none
  freeC : ∀ x c, X.env.cells.lookup x = some c → H c = none
  pin : ∀ p ∈ X.pn ++ pins, s.heap.get? p.1 = some p.2 ∧ H p.1 = none ∧ p.1 ≠ X.env.locals ∧ p.1 ∉ X.fs ∧ ∀ v, p.2.data ≠ .cell v
  hok : HOk X.prog X.w H s.heap
  len : σ.length = X.N.length
section
variable {X : Cx} {pins : List (Addr × Obj)} {σ : List (Option V)} {H H' : Hp} {s : Shared} {h' : Heap}
theorem Cx.Ok.nofr (ok : X.Ok) {b : Addr} {o : Obj} (e : X.base.get? b = some o) : b ∉ X.fs := fun hb => by
  have := (ok.funs.mem hb).1
  rw [e] at this; cases this
theorem Inv.bs (I : Inv X pins σ H s) : ∀ b o, X.base.get? b = some o → s.heap.get? b = some o ∧ H b = none := fun b o e =>
  ⟨I.base.keep b o (I.ok.bs b o e).1 (I.ok.bs b o e).2 (I.ok.nofr e) (I.ok.noex b o e), I.base.free b o (I.ok.bs b o e).1 (I.ok.bs b o e).2 (I.ok.noex b o e)⟩
theorem Inv.bk (I : Inv X pins σ H s) : ∀ b o, X.base.get? b = some o → s.heap.get? b = some o := fun b o e => (I.bs b o e).1
theorem Inv.mod (I : Inv X pins σ H s) : Mod X.K X.mg X.base := I.ok.mod
theorem Inv.kIn (I : Inv X pins σ H s) : X.K.In s.heap := I.ok.mod.kin.keeps I.bk
theorem Inv.nolimit (I : Inv X pins σ H s) : s.heap.NoLimit := I.ok.mod.nolimit.keeps I.bk
theorem Inv.lt (I : Inv X pins σ H s) : X.env.locals < s.heap.objs.size := let ⟨_, hn, _⟩ := I.loc; hn.lt
theorem Inv.sz (I : Inv X pins σ H s) : X.s_0.heap.objs.size ≤ s.heap.objs.size := Nat.le_trans I.ok.above (Nat.le_of_lt I.lt)
theorem Inv.nofs (I : Inv X pins σ H s) {a : Addr} (h : s.heap.objs.size ≤ a) : a ∉ X.fs := fun hb => by
  obtain ⟨_, o, ho, _⟩ := I.ok.funs.mem hb
  exact absurd (Nat.lt_of_lt_of_le (Heap.lt_size ho) (Nat.le_trans I.sz h)) (Nat.lt_irrefl _)
theorem Inv.cne (I : Inv X pins σ H s) : ∀ x c, X.env.cells.lookup x = some c → c ≠ X.env.locals := fun x c e z => by
  obtain ⟨v, o, ho, hd⟩ := I.cell x c e
  obtain ⟨m, ⟨o', es, ep, ho', hd', _⟩, _⟩ := I.loc
  rw [z, ho'] at ho; cases ho; rw [hd'] at hd; cases hd
theorem Inv.funs (I : Inv X pins σ H s) : s.heap.FunFrames X.base X.outer := by
  have all : ∀ (l : List Env), (∀ b ∈ frs l, b ∈ X.fs) → X.s_0.heap.FunFrames X.base l → s.heap.FunFrames X.base l := by
    intro l
    induction l with
    | nil => intro _ _; trivial
    | cons env r ih =>
      intro hs hl
      obtain ⟨hk, ⟨L, o, hf, hn, ho, hd⟩, hr⟩ := hl
      have hL : L ∈ X.fs := hs L (by unfold frs; rw [List.filterMap_cons, hf]; exact List.mem_cons_self)
      obtain ⟨sl, e⟩ := I.base.slot L o ho (I.ok.frf L hL) hL fun z => I.ok.exfs L z hL
      exact ⟨hk, ⟨L, _, hf, hn, e, hd⟩, ih (fun b hb => hs b (by unfold frs; rw [List.filterMap_cons, hf]; exact List.mem_cons_of_mem _ hb)) hr⟩
  exact all X.outer (fun _ hb => hb) I.ok.funs
/-- the frames that run, for a call -/
theorem Inv.stack (I : Inv X pins σ H s) : s.heap.FunFrames X.base X.stack := by
  rcases I.ok.stk with e | ⟨e, hf⟩
  · rw [e]; exact I.funs
  · rw [e]
    obtain ⟨m, hn, _⟩ := I.loc
    refine .cons (by rw [I.ok.kind]; decide) hf hn ?_ I.funs
    exact Heap.get?_none_of_le (Nat.le_trans I.ok.bsz I.ok.above)
theorem Inv.stkSub (I : Inv X pins σ H s) : ∀ b ∈ frs X.stack, b ∈ X.env.locals :: X.fs := fun b hb => by
  rcases I.ok.stk with e | ⟨e, hf⟩
  · rw [e] at hb; exact List.mem_cons_of_mem _ hb
  · rw [e] at hb
    unfold frs at hb
    rw [List.filterMap_cons, hf] at hb
    exact hb
theorem Inv.stkFree (I : Inv X pins σ H s) : ∀ b ∈ frs X.stack, H b = none := fun b hb => by
  rcases List.mem_cons.mp (I.stkSub b hb) with e | hb
  · rw [e]; exact I.free
  · obtain ⟨_, o, ho, _⟩ := I.ok.funs.mem hb
    exact I.base.free b o ho (I.ok.frf b hb) fun z => I.ok.exfs b z hb
/-- THE STEP: the untracked objects but the frame and the records at ch are kept (the callers' frames up to slots), the frame's map is kept, the new abstract heap is held -/
theorem Inv.step {g' : Array GenState} {t' : Nat} {d' : Drawn} {ch : List Addr} (I : Inv X pins σ H s)
    (hch : ∀ b ∈ ch, (b ∈ X.ex ∨ X.s_0.heap.objs.size ≤ b) ∧ b ≠ X.env.locals ∧ (∀ x c, X.env.cells.lookup x = some c → c ≠ b) ∧ ∀ p ∈ X.pn ++ pins, p.1 ≠ b)
    (keep : ∀ b o, b ≠ X.env.locals → b ∉ X.fs → b ∉ ch → s.heap.get? b = some o → H b = none → h'.get? b = some o)
    (slot : ∀ b o, b ≠ X.env.locals → b ∈ X.fs → b ∉ ch → s.heap.get? b = some o → H b = none → ∃ sl, h'.get? b = some { o with slots := sl }) (free : ∀ b o, b ∉ ch → s.heap.get? b = some o → H b = none → H' b = none)
    (there : ∀ b o, b ∉ ch → s.heap.get? b = some o → ∃ o', h'.get? b = some o')
    (tups : ∀ b xs, H b = some (.tup xs) → H' b = some (.tup xs)) (frzs : ∀ b o u, H b = some (.frz o u) → H' b = some (.frz o u)) (tbls : ∀ b ps, H b = some (.tbl ps) → ∃ more, H' b = some (.tbl (ps ++ more)))
    (ns : ∀ m, s.heap.Ns X.env.locals m → h'.Ns X.env.locals m) (hok : HOk X.prog X.w H' h') (hg : AllBare g') :
    Inv X pins σ H' { s with heap := h', gens := g', drawn := d', toks := t' } := by
  have neL : ∀ b o, X.s_0.heap.get? b = some o → b ≠ X.env.locals := fun b o e => Nat.ne_of_lt (Nat.lt_of_lt_of_le (Heap.lt_size e) I.ok.above)
  have neC : ∀ b o, X.s_0.heap.get? b = some o → b ∉ X.ex → b ∉ ch := fun b o e hx hb => by
    rcases (hch b hb).1 with z | z
    · exact hx z
    · exact absurd (Nat.lt_of_lt_of_le (Heap.lt_size e) z) (Nat.lt_irrefl _)
  have cellK : ∀ x c, X.env.cells.lookup x = some c → ∀ v, s.heap.IsCell c v → h'.IsCell c v := fun x c e v ⟨o, ho, hd⟩ => by
    have nch : c ∉ ch := fun z => (hch c z).2.2.1 x c e rfl
    by_cases hc : c ∈ X.fs
    · obtain ⟨sl, q⟩ := slot c o (I.cne x c e) hc nch ho (I.freeC x c e)
      exact ⟨_, q, hd⟩
    · exact ⟨o, keep c o (I.cne x c e) hc nch ho (I.freeC x c e), hd⟩
  refine ⟨I.ok, I.os, hg, ⟨fun b o e n hb hx => ?_, fun b o e n hb hx => ?_, fun b o e n hx => ?_, fun b o e hx => ?_, fun b xs e => tups b xs (I.base.tups b xs e), fun b o xs e => frzs b o xs (I.base.frzs b o xs e), fun b ps e => ?_⟩, ?_, fun x c e => ?_, ?_, fun x c e => ?_, fun p hp => ?_, hok, I.len⟩
  · exact keep b o (neL b o e) hb (neC b o e hx) (I.base.keep b o e n hb hx) (I.base.free b o e n hx)
  · obtain ⟨sl, e1⟩ := I.base.slot b o e n hb hx
    obtain ⟨sl', e2⟩ := slot b _ (neL b o e) hb (neC b o e hx) e1 (I.base.free b o e n hx)
    exact ⟨sl', e2⟩
  · obtain ⟨o', e1⟩ := I.base.there b o e hx
    exact free b o' (neC b o e hx) e1 (I.base.free b o e n hx)
  · obtain ⟨o', e1⟩ := I.base.there b o e hx
    exact there b o' (neC b o e hx) e1
  · obtain ⟨m1, e1⟩ := I.base.tbls b ps e
    obtain ⟨m2, e2⟩ := tbls b _ e1
    exact ⟨m1 ++ m2, by rw [e2, Array.append_assoc]⟩
  · obtain ⟨m, hn, hl⟩ := I.loc
    refine ⟨m, ns m hn, fun i x v e1 e2 e3 => ?_⟩
    obtain ⟨u, r, l⟩ := hl i x v e1 e2 e3
    refine ⟨u, r, ?_⟩
    rcases l with l | ⟨k, c, e, z⟩
    · exact .inl l
    · exact .inr ⟨k, c, e, cellK x c e _ z⟩
  · obtain ⟨v, z⟩ := I.cell x c e
    exact ⟨v, cellK x c e v z⟩
  · obtain ⟨m, ⟨o, _, _, ho, _⟩, _⟩ := I.loc
    exact free _ o (fun z => (hch _ z).2.1 rfl) ho I.free
  · obtain ⟨v, o, ho, hd⟩ := I.cell x c e
    exact free c o (fun z => (hch c z).2.2.1 x c e rfl) ho (I.freeC x c e)
  · obtain ⟨e, n, ne, nf, d⟩ := I.pin p hp
    have nch : p.1 ∉ ch := fun z => (hch p.1 z).2.2.2 p hp rfl
    exact ⟨keep p.1 p.2 ne nf nch e n, free p.1 p.2 nch e n, ne, nf, d⟩
/-- .. where the frame's own object is kept too -/
theorem Inv.un {t' : Nat} (I : Inv X pins σ H s) (u : Un X.fs [] H H' s.heap h') (hok : HOk X.prog X.w H' h') : Inv X pins σ H' { s with heap := h', toks := t' } := by
  obtain ⟨m, ⟨o, es, ep, ho, r⟩, _⟩ := id I.loc
  obtain ⟨sl, hL⟩ := u.any ho I.free (by simp)
  exact I.step (g' := s.gens) (d' := s.drawn) (ch := []) (fun _ z => nomatch z) (fun b o _ hb _ e n => u.keep b o e n hb (by simp)) (fun b o _ hb _ e n => u.slot b o e n hb (by simp)) (fun b o _ e n => u.free b o e n (by simp)) (fun b o _ e => u.there b o e (by simp)) u.tups u.frzs u.tbls (fun m' hm => by
    obtain ⟨o', es', ep', ho', r'⟩ := hm
    rw [ho] at ho'; cases ho'
    exact ⟨_, es', ep', hL, r'⟩) hok I.bare
/-- behind a call (or a comprehension's block): the slots of this frame may have changed too, the records at ch may have turned -/
theorem Inv.call {g' : Array GenState} {t' : Nat} {d' : Drawn} {ch : List Addr} (I : Inv X pins σ H s) (u : Un (frs X.stack) ch H H' s.heap h') (hok : HOk X.prog X.w H' h') (hg : AllBare g')
    (hch : ∀ b ∈ ch, (b ∈ X.ex ∨ X.s_0.heap.objs.size ≤ b) ∧ b ≠ X.env.locals ∧ (∀ x c, X.env.cells.lookup x = some c → c ≠ b) ∧ ∀ p ∈ X.pn ++ pins, p.1 ≠ b) :
    Inv X pins σ H' { s with heap := h', gens := g', drawn := d', toks := t' } := by
  obtain ⟨m, ⟨o, es, ep, ho, r⟩, _⟩ := id I.loc
  obtain ⟨sl, hL⟩ := u.any ho I.free fun z => (hch _ z).2.1 rfl
  exact I.step (ch := ch) hch (fun b o hL hb hc e n => u.keep b o e n (fun z => (List.mem_cons.mp (I.stkSub b z)).elim hL hb) hc) (fun b o _ _ hc e n => u.any e n hc) (fun b o hc e n => u.free b o e n hc) (fun b o hc e => u.there b o e hc) u.tups u.frzs u.tbls (fun m' hm => by
    obtain ⟨o', es', ep', ho', r'⟩ := hm
    rw [ho] at ho'; cases ho'
    exact ⟨_, es', ep', hL, r'⟩) hok hg
/-- an untracked record of ours (an iterator) has turned -/
theorem Inv.turned {t' : Nat} {it : Addr} (I : Inv X pins σ H s) (k : ∀ b o, b ≠ it → s.heap.get? b = some o → h'.get? b = some o) (hn : H it = none) (hL : it ≠ X.env.locals)
    (h1 : it ∈ X.ex ∨ X.s_0.heap.objs.size ≤ it) (h2 : ∀ x c, X.env.cells.lookup x = some c → c ≠ it) (h3 : ∀ p ∈ X.pn ++ pins, p.1 ≠ it) : Inv X pins σ H { s with heap := h', toks := t' } := by
  have nit : ∀ b u, H b = some u → b ≠ it := fun b u e z => by rw [z, hn] at e; cases e
  refine I.step (g' := s.gens) (d' := s.drawn) (ch := [it]) (fun b hb => ?_) (fun b o _ _ hc e _ => k b o (fun z => hc (by simp [z])) e) (fun b o _ _ hc e _ => ⟨o.slots, k b o (fun z => hc (by simp [z])) e⟩) (fun _ _ _ _ n => n)
    (fun b o hc e => ⟨o, k b o (fun z => hc (by simp [z])) e⟩) (fun _ _ e => e) (fun _ _ _ e => e) (fun b ps e => ⟨#[], by rw [e]; simp⟩) (fun m hm => ?_) (fun b u e => ?_) I.bare
  · have e : b = it := by simpa using hb
    subst e
    exact ⟨h1, hL, h2, h3⟩
  · obtain ⟨o, es, ep, ho, r⟩ := hm
    exact ⟨o, es, ep, k _ o (Ne.symm hL) ho, r⟩
  · refine (I.hok b u e).stay (fun c v hc q => k c v ?_ q) (fun _ q => q) fun _ _ q => q
    rcases hc with z | z
    · rw [z]; exact nit b u e
    · exact nit c _ z
theorem Inv.tok (I : Inv X pins σ H s) (t : Nat) : Inv X pins σ H { s with toks := t } := I.un (h' := s.heap) (t' := t) Un.refl I.hok
/-- all objects kept -/
theorem Inv.kept {t' : Nat} (I : Inv X pins σ H s) (k : ∀ b u, s.heap.get? b = some u → h'.get? b = some u) : Inv X pins σ H { s with heap := h', toks := t' } := I.un (Un.kept k) (I.hok.kept k)
/-- a new object laid and tracked -/
theorem Inv.laid {a : Addr} {o : HO} {t' : Nat} (I : Inv X pins σ H s) (k : ∀ b u, s.heap.get? b = some u → h'.get? b = some u) (hp : s.heap.objs.size ≤ a) (new : ObjOk X.prog X.w (upd H a o) h' a o) :
    Inv X pins σ (upd H a o) { s with heap := h', toks := t' } := I.un (Un.laid k hp (I.hok.fresh hp)) (I.hok.laid k hp new)
/-- an object written -/
theorem Inv.write {x e : Addr} {o : HO} {t' : Nat} (I : Inv X pins σ H s) (mu : Mut (H x)) (he : e = x ∨ H e = some (.own x)) (k : ∀ b u, b ≠ e → s.heap.get? b = some u → h'.get? b = some u) (heo : ∃ u, h'.get? e = some u)
    (new : ObjOk X.prog X.w (upd H x o) h' x o) : Inv X pins σ (upd H x o) { s with heap := h', toks := t' } := I.un (Un.write mu he k heo) (I.hok.write mu he k heo new)
/-- forgetting slots, pins -/
theorem Inv.weak {σ' : List (Option V)} (I : Inv X pins σ H s) (hl : σ'.length = σ.length) (w : ∀ (i : Nat) v, σ'[i]? = some (some v) → σ[i]? = some (some v)) : Inv X pins σ' H s :=
  ⟨I.ok, I.os, I.bare, I.base, let ⟨m, hn, hl'⟩ := I.loc; ⟨m, hn, fun i x v e1 e2 e3 => hl' i x v e1 (w i v e2) e3⟩, I.cell, I.free, I.freeC, I.pin, I.hok, hl.trans I.len⟩
theorem Inv.pins_of {pins' : List (Addr × Obj)} (I : Inv X pins σ H s) (h : ∀ p ∈ pins', s.heap.get? p.1 = some p.2 ∧ H p.1 = none ∧ p.1 ≠ X.env.locals ∧ p.1 ∉ X.fs ∧ ∀ v, p.2.data ≠ .cell v) : Inv X pins' σ H s :=
  ⟨I.ok, I.os, I.bare, I.base, I.loc, I.cell, I.free, I.freeC, fun p hp => (List.mem_append.mp hp).elim (fun z => I.pin p (List.mem_append_left _ z)) (h p), I.hok, I.len⟩
theorem nodup_ix {N : List Str} (hN : N.Nodup) {i j : Nat} {x : Str} (a : N[i]? = some x) (b : N[j]? = some x) : i = j := by
  obtain ⟨h1, e1⟩ := List.getElem?_eq_some_iff.mp a
  obtain ⟨h2, e2⟩ := List.getElem?_eq_some_iff.mp b
  exact (List.getElem_inj hN).mp (e1.trans e2.symm)
/-- a name is stored; what changed -/
theorem store_ok2 {M : Model} {A : Around} {E : Value → Shared → Prop} {i : Nat} {x : Str} {v : V} {u : Value} {Q : Unit → Shared → Prop} (I : Inv X pins σ H s) (hN : X.N.Nodup) (hi : X.N[i]? = some x) (hx : Loc X.env.scope x) (r : RelV v u)
    (h : ∀ s', Inv X pins (σ.set i (some v)) H s' → (∃ a, Heap.SameBut a s.heap s'.heap ∧ (a = X.env.locals ∨ X.env.cells.lookup x = some a)) → Q () s') (hf : X.fn x = true ∨ X.env.scope.names.lookup x = some .local := by first | exact .inl rfl | exact .inr rfl | assumption) : wpAny M A (storeName X.env x u) Q E s := by
  obtain ⟨m, hn, hl⟩ := id I.loc
  have hcls : (X.env.scope.kind == .class || (X.env.scope.kind == .module && X.env.locals != X.env.globals)) = false := by rw [I.ok.kind]; rfl
  have hiσ : i < σ.length := by rw [I.len]; exact (List.getElem?_eq_some_iff.mp hi).1
  have cne := I.cne
  have tracked : ∀ {a : Addr} {h' : Heap}, (∃ o, s.heap.get? a = some o ∧ H a = none) → Heap.SameBut a s.heap h' → HOk X.prog X.w H h' := fun {a h'} ha hs b ob e => by
    obtain ⟨_, _, hfree⟩ := ha
    refine (I.hok b ob e).stay (fun c w' hc q => (hs.2 c ?_).trans q) (fun _ q => q) fun _ _ q => q
    rintro rfl
    rcases hc with rfl | hc
    · rw [hfree] at e; cases e
    · rw [hfree] at hc; cases hc
  rcases hx with hk | hk
  · refine wpAny_storeName_local hk hn (fun h' hn' hs => ?_) hcls
    obtain ⟨oL, _, _, hoL, _⟩ := id hn
    refine h _ ⟨I.ok, I.os, I.bare, ⟨fun b o e n hb hx => ?_, fun b o e n hb hx => ?_, I.base.free, fun b o e hx => ?_, I.base.tups, I.base.frzs, I.base.tbls⟩, ⟨_, hn', fun j y v' e1 e2 e3 => ?_⟩, fun y c e => ?_, I.free, I.freeC, fun p hp => ?_, tracked ⟨oL, hoL, I.free⟩ hs, by simpa using I.len⟩ ⟨_, hs, .inl rfl⟩
    · exact (hs.2 b (Nat.ne_of_lt (Nat.lt_of_lt_of_le (Heap.lt_size e) I.ok.above))).trans (I.base.keep b o e n hb hx)
    · obtain ⟨sl, e1⟩ := I.base.slot b o e n hb hx
      exact ⟨sl, (hs.2 b (Nat.ne_of_lt (Nat.lt_of_lt_of_le (Heap.lt_size e) I.ok.above))).trans e1⟩
    · obtain ⟨o', e1⟩ := I.base.there b o e hx
      exact ⟨o', (hs.2 b (Nat.ne_of_lt (Nat.lt_of_lt_of_le (Heap.lt_size e) I.ok.above))).trans e1⟩
    · by_cases hj : j = i
      · subst hj
        rw [hi] at e1; cases e1
        rw [List.getElem?_set_self hiσ] at e2
        cases e2
        exact ⟨u, r, .inl ⟨hk, by simp⟩⟩
      · rw [List.getElem?_set_ne (Ne.symm hj)] at e2
        obtain ⟨u', r', q⟩ := hl j y v' e1 e2 e3
        refine ⟨u', r', ?_⟩
        rcases q with ⟨k, e⟩ | ⟨k, c, e, z⟩
        · refine .inl ⟨k, ?_⟩
          have : y ≠ x := fun e => hj (nodup_ix hN e1 (e ▸ hi))
          simp [this, e]
        · exact .inr ⟨k, c, e, z.sameBut hs (cne y c e)⟩
    · obtain ⟨w', z⟩ := I.cell y c e
      exact ⟨w', z.sameBut hs (cne y c e)⟩
    · obtain ⟨e, n, ne, nf, d⟩ := I.pin p hp
      exact ⟨(hs.2 p.1 ne).trans e, n, ne, nf, d⟩
  · have hfn : X.fn x = true := by
      rcases hf with z | z
      · exact z
      · rw [z] at hk; cases hk
    obtain ⟨c, hc⟩ := I.ok.has x (.inl hk)
    obtain ⟨w', z⟩ := I.cell x c hc
    refine wpAny_storeName_cell I.ok.kind hk hc z (fun h' hc' hs => ?_)
    obtain ⟨oc, hoc, hocd⟩ := id z
    refine h { s with heap := h' } ⟨I.ok, I.os, I.bare, ⟨fun b o e n hb hx => ?_, fun b o e n hb hx => ?_, I.base.free, fun b o e hx => ?_, I.base.tups, I.base.frzs, I.base.tbls⟩, ⟨m, hn.sameBut hs (Ne.symm (cne x c hc)), fun j y v' e1 e2 e3 => ?_⟩, fun y c' e => ?_, I.free, I.freeC, fun p hp => ?_, tracked ⟨oc, hoc, I.freeC x c hc⟩ hs, by simpa using I.len⟩ ⟨c, hs, .inr hc⟩
    · exact (hs.2 b (Nat.ne_of_lt (Nat.lt_of_lt_of_le (Heap.lt_size e) (I.ok.cab x c hfn hc)))).trans (I.base.keep b o e n hb hx)
    · obtain ⟨sl, e1⟩ := I.base.slot b o e n hb hx
      exact ⟨sl, (hs.2 b (Nat.ne_of_lt (Nat.lt_of_lt_of_le (Heap.lt_size e) (I.ok.cab x c hfn hc)))).trans e1⟩
    · obtain ⟨o', e1⟩ := I.base.there b o e hx
      exact ⟨o', (hs.2 b (Nat.ne_of_lt (Nat.lt_of_lt_of_le (Heap.lt_size e) (I.ok.cab x c hfn hc)))).trans e1⟩
    · by_cases hj : j = i
      · subst hj
        rw [hi] at e1; cases e1
        rw [List.getElem?_set_self hiσ] at e2
        cases e2
        exact ⟨u, r, .inr ⟨.inl hk, c, hc, hc'⟩⟩
      · rw [List.getElem?_set_ne (Ne.symm hj)] at e2
        obtain ⟨u', r', q⟩ := hl j y v' e1 e2 e3
        refine ⟨u', r', ?_⟩
        rcases q with q | ⟨k, c', e, z'⟩
        · exact .inl q
        · refine .inr ⟨k, c', e, z'.sameBut hs ?_⟩
          rintro rfl
          exact hj (nodup_ix hN e1 (I.ok.inj _ _ _ e hc ▸ hi))
    · by_cases hcc : c' = c
      · subst hcc; exact ⟨_, hc'⟩
      · obtain ⟨w2, z2⟩ := I.cell y c' e
        exact ⟨w2, z2.sameBut hs hcc⟩
    · obtain ⟨e, n, ne, nf, d⟩ := I.pin p hp
      refine ⟨(hs.2 p.1 ?_).trans e, n, ne, nf, d⟩
      intro q
      rw [q, hoc] at e
      have q' : oc = p.2 := Option.some.inj e
      exact d w' (by rw [← q']; exact hocd)
theorem store_ok {M : Model} {A : Around} {E : Value → Shared → Prop} {i : Nat} {x : Str} {v : V} {u : Value} {Q : Unit → Shared → Prop} (I : Inv X pins σ H s) (hN : X.N.Nodup) (hi : X.N[i]? = some x) (hx : Loc X.env.scope x) (r : RelV v u)
    (h : ∀ s', Inv X pins (σ.set i (some v)) H s' → Q () s') (hf : X.fn x = true ∨ X.env.scope.names.lookup x = some .local := by first | exact .inl rfl | exact .inr rfl | assumption) : wpAny M A (storeName X.env x u) Q E s :=
  store_ok2 I hN hi hx r (fun s' I' _ => h s' I') hf
/-- behind a call or a block, the state as it is -/
theorem Inv.call' {s' : Shared} {ch : List Addr} (I : Inv X pins σ H s) (ho : s'.os = s.os) (u : Un (frs X.stack) ch H H' s.heap s'.heap) (hok : HOk X.prog X.w H' s'.heap) (hg : AllBare s'.gens)
    (hch : ∀ b ∈ ch, (b ∈ X.ex ∨ X.s_0.heap.objs.size ≤ b) ∧ b ≠ X.env.locals ∧ (∀ x c, X.env.cells.lookup x = some c → c ≠ b) ∧ ∀ p ∈ X.pn ++ pins, p.1 ≠ b) : Inv X pins σ H' s' := by
  obtain ⟨h', g', d', t', o'⟩ := s'
  have e : o' = s.os := ho
  subst e
  exact I.call (g' := g') (t' := t') (d' := d') u hok hg hch
end
/-! ### the judgements -/
/-- an exception: its class, its own dict's address (where it has one), the abstract heap behind it -/
abbrev XK := Value → Option Addr → Hp → Prop
abbrev St := List (Option V)
abbrev VK := V → Hp → Prop
/-- an expression's reading; a test's; an argument list's -/
abbrev TE := St → Hp → VK → Prop
abbrev TT := St → Hp → (Bool → Hp → Prop) → Prop
abbrev TA := St → Hp → (List V → Hp → Prop) → Prop
/-- what is wanted behind a statement -/
structure Ends where
  nx : St → Hp → Prop
  rt : VK
  bk : St → Hp → Prop := fun _ _ => False
  ct : St → Hp → Prop := fun _ _ => False
abbrev TS := Ends → St → Hp → Prop
def EP (X : Cx) (pins : List (Addr × Obj)) (σ : St) (Q : VK) (u : Value) (s' : Shared) : Prop := ∃ v H', Inv X pins σ H' s' ∧ RelV v u ∧ Q v H'
def TP (X : Cx) (pins : List (Addr × Obj)) (σ : St) (Q : Bool → Hp → Prop) (b : Bool) (s' : Shared) : Prop := ∃ H', Inv X pins σ H' s' ∧ Q b H'
def AP (X : Cx) (pins : List (Addr × Obj)) (σ : St) (Q : List V → Hp → Prop) (us : List Value) (s' : Shared) : Prop := ∃ vs H', Inv X pins σ H' s' ∧ Vals vs us ∧ Q vs H'
def SP (X : Cx) (pins : List (Addr × Obj)) (D : Ends) (f : Flow) (s' : Shared) : Prop :=
  match f with
  | .next => ∃ σ' H', Inv X pins σ' H' s' ∧ D.nx σ' H'
  | .brk => ∃ σ' H', Inv X pins σ' H' s' ∧ D.bk σ' H'
  | .cont => ∃ σ' H', Inv X pins σ' H' s' ∧ D.ct σ' H'
  | .ret u => ∃ v σ' H', Inv X pins σ' H' s' ∧ RelV v u ∧ D.rt v H'
def PE (X : Cx) (e : Expr) (t : TE) : Prop :=
  ∀ (pins : List (Addr × Obj)) (s : Shared) (σ : St) (H : Hp) (Q : VK), Inv X pins σ H s → t σ H Q → wpAny (model X.prog X.w) X.A (eval e X.env) (EP X pins σ Q) X.xe s
def PT (X : Cx) (e : Expr) (t : TT) : Prop :=
  ∀ (pins : List (Addr × Obj)) (s : Shared) (σ : St) (H : Hp) (Q : Bool → Hp → Prop), Inv X pins σ H s → t σ H Q → wpAny (model X.prog X.w) X.A (isTrue e X.env (eval e X.env)) (TP X pins σ Q) X.xe s
/-- a test whatever its 'whole' is (and, or) -/
def PW (X : Cx) (e : Expr) (t : TT) : Prop :=
  ∀ (whole : Sem Value) (pins : List (Addr × Obj)) (s : Shared) (σ : St) (H : Hp) (Q : Bool → Hp → Prop), Inv X pins σ H s → t σ H Q → wpAny (model X.prog X.w) X.A (isTrue e X.env whole) (TP X pins σ Q) X.xe s
theorem PW.pt {X : Cx} {e : Expr} {t : TT} (h : PW X e t) : PT X e t := h _
/-- an argument list (no star), from the left -/
def PA (X : Cx) (es : List Expr) (t : TA) : Prop :=
  ∀ (pos : Pos) (pins : List (Addr × Obj)) (s : Shared) (σ : St) (H : Hp) (Q : List V → Hp → Prop), Inv X pins σ H s → t σ H Q → wpAny (model X.prog X.w) X.A (spliced (backTo pos (starEach es X.env))) (AP X pins σ Q) X.xe s
def PS (X : Cx) (st : Stmt) (t : TS) : Prop :=
  ∀ (pins : List (Addr × Obj)) (s : Shared) (σ : St) (H : Hp) (D : Ends), Inv X pins σ H s → t D σ H → wpAny (model X.prog X.w) X.A (exec st X.env) (SP X pins D) X.xe s
def PSs (X : Cx) (st : List Stmt) (t : TS) : Prop :=
  ∀ (pins : List (Addr × Obj)) (s : Shared) (σ : St) (H : Hp) (D : Ends), Inv X pins σ H s → t D σ H → wpAny (model X.prog X.w) X.A (execs st X.env) (SP X pins D) X.xe s
/-- weaken the end -/
theorem thn {α : Type} {t : Sem α} {Q Q' : α → Shared → Prop} {M : Model} {A : Around} {E : Value → Shared → Prop} {s : Shared} (h : wpAny M A t Q E s) (hQ : ∀ a s, Q a s → Q' a s) : wpAny M A t Q' E s := wpAny_mono h hQ fun _ _ x => x
end L2
namespace L2
open PySem PySem.Spec PyProof.Rows
section
variable {X : Cx}
/-! ### names and constants -/
def tVar (i : Nat) : TE := fun σ H Q => ∃ v, σ[i]? = some (some v) ∧ Q v H
def tC (v : V) : TE := fun _ H Q => Q v H
theorem pe_var {i : Nat} {x : Str} {pos : Pos} (hN : X.N[i]? = some x) (hv : Vis X.env.scope x) (hd : (x == ("__debug__" : Str)) = false := by decide) (hcd : (x == ("__classdict__" : Str)) = false := by decide) : PE X (.Name x pos) (tVar i) := by
  intro pins s σ H Q I h
  obtain ⟨v, e, h⟩ := h
  obtain ⟨m, hn, hl⟩ := I.loc
  obtain ⟨u, r, l⟩ := hl i x v hN e hv
  have fin : EP X pins σ Q u s := ⟨v, H, I, r, h⟩
  rcases l with ⟨hk, hm⟩ | ⟨hk, c, hc, hcell⟩
  · exact wpAny_Name (wpAny_loadName_local I.ok.kind hk hn hm fin) hd
  · rcases hk with hk | hk
    · exact wpAny_Name (wpAny_loadName_cell I.ok.kind hk hc hcell fin) hd
    · exact wpAny_Name (wpAny_loadName_free I.ok.kind hk hc hcell fin hcd) hd
theorem pe_int {i j pos} : PE X (.Constant (.int i) j pos) (tC (.int i)) := fun _ _ _ H _ I h => wpAny_Constant_int ⟨.int i, H, I.tok _, ⟨_, rfl⟩, h⟩
theorem pe_bl {b j pos} : PE X (.Constant (.bool b) j pos) (tC (.bl b)) := fun _ _ _ H _ I h => Constant_bool ⟨.bl b, H, I, rfl, h⟩
theorem pe_non {j pos} : PE X (.Constant .none j pos) (tC .non) := fun _ _ _ H _ I h => Constant_none ⟨.non, H, I, rfl, h⟩
theorem pe_str {x j pos} : PE X (.Constant (.str x) j pos) (tC (.str x)) := fun _ _ _ H _ I h => Calls.Constant_str ⟨.str x, H, I.tok _, ⟨_, rfl⟩, h⟩
/-- a global name of the def -/
def Gl (X : Cx) (x : Str) : Prop := X.env.kindOf x = some .globalImplicit
theorem ld_glob {E : Value → Shared → Prop} {pins : List (Addr × Obj)} {s : Shared} {σ : St} {H : Hp} {x : Str} {u : Value} {pos : Pos} {Q : Value → Shared → Prop} (I : Inv X pins σ H s) (hg : Gl X x) (hm : X.mg x = some u) (h : Q u s)
    (hd : (x == ("__debug__" : Str)) = false := by decide) : wpAny (model X.prog X.w) X.A (eval (.Name x pos) X.env) Q E s :=
  Calls.Name_function_global I.ok.kind hg (Calls.loadGlobal_global (by rw [I.ok.glob]; exact I.mod.glob.keeps I.bk) hm h) hd
theorem ld_blt {E : Value → Shared → Prop} {pins : List (Addr × Obj)} {s : Shared} {σ : St} {H : Hp} {x : Str} {u : Value} {pos : Pos} {Q : Value → Shared → Prop} (I : Inv X pins σ H s) (hg : Gl X x) (hm : X.mg x = none) (hv : bootBuiltins x = some u) (h : Q u s)
    (hn : x ≠ "__name__" := by decide) (hd : (x == ("__debug__" : Str)) = false := by decide) : wpAny (model X.prog X.w) X.A (eval (.Name x pos) X.env) Q E s := by
  obtain ⟨mb, h1, h2⟩ := I.mod.blt
  exact Calls.Name_function_global I.ok.kind hg (Calls.loadGlobal_builtin (by rw [I.ok.glob]; exact I.mod.glob.keeps I.bk) hm (by rw [I.ok.blt]; exact h1.keeps I.bk) ((h2 x hn).trans hv) h) hd
/-- a module's constant, a class, a function, as a value -/
theorem pe_glob {x : Str} {v : V} {u : Value} {pos : Pos} (hg : Gl X x) (hm : X.mg x = some u) (r : RelV v u) (hd : (x == ("__debug__" : Str)) = false := by decide) : PE X (.Name x pos) (tC v) :=
  fun _ _ _ H _ I h => ld_glob I hg hm ⟨v, H, I, r, h⟩ hd
/-! ### arithmetic -/
/-- two ints -/
def t2I (ta tb : TE) (k : Int → Int → Hp → Prop) : St → Hp → Prop := fun σ H => ta σ H fun x H1 => tb σ H1 fun y H2 => ∃ i j, x = .int i ∧ y = .int j ∧ k i j H2
def tAdd (ta tb : TE) : TE := fun σ H Q => t2I ta tb (fun i j H2 => Q (.int (i + j)) H2) σ H
def tSub (ta tb : TE) : TE := fun σ H Q => t2I ta tb (fun i j H2 => Q (.int (i - j)) H2) σ H
/-- the left factor below 2^64 -/
def tMul (ta tb : TE) : TE := fun σ H Q => t2I ta tb (fun i j H2 => (-(2 ^ 64) < i ∧ i < 2 ^ 64) ∧ Q (.int (i * j)) H2) σ H
variable {a b : Expr} {ta tb : TE} {pos : Pos}
/-! ### comparisons -/
def PC (X : Cx) (op : CmpOp) (a b : Expr) (t : TE) : Prop :=
  ∀ (pins : List (Addr × Obj)) (s : Shared) (σ : St) (H : Hp) (Q : VK), Inv X pins σ H s → t σ H Q →
    wpAny (model X.prog X.w) X.A (eval a X.env) (fun v s₁ => wpAny (model X.prog X.w) X.A (eval b X.env) (fun u s₂ => wpAny (model X.prog X.w) X.A (compareOp op v u) (EP X pins σ Q) X.xe s₂) X.xe s₁) X.xe s
theorem nobehind (b : Expr) {op : CmpOp} (h : op ≠ .In) (h2 : op ≠ .NotIn) : behindInMarks op b = false := by
  have e1 : (op == CmpOp.In) = false := by cases op <;> first | rfl | exact absurd rfl h
  have e2 : (op == CmpOp.NotIn) = false := by cases op <;> first | rfl | exact absurd rfl h2
  cases b <;> simp [behindInMarks, e1, e2]
def tCmp (p : Int → Int → Bool) (ta tb : TE) : TE := fun σ H Q => t2I ta tb (fun i j H2 => Q (.bl (p i j)) H2) σ H
abbrev tLt : TE → TE → TE := tCmp fun i j => decide (i < j)
abbrev tLe : TE → TE → TE := tCmp fun i j => decide (i ≤ j)
abbrev tGt : TE → TE → TE := tCmp fun i j => decide (j < i)
abbrev tGe : TE → TE → TE := tCmp fun i j => decide (j ≤ i)
abbrev tEqI : TE → TE → TE := tCmp fun i j => decide (i = j)
abbrev tNeI : TE → TE → TE := tCmp fun i j => !decide (i = j)
/-- is None -/
def tIsN (ta : TE) : TE := fun σ H Q => ta σ H fun x H1 => Q (.bl (decide (x = .non))) H1
def tNotN (ta : TE) : TE := fun σ H Q => ta σ H fun x H1 => Q (.bl (!decide (x = .non))) H1
/-- a comparison as a value, as a test -/
def tB (t : TE) : TT := fun σ H Q => t σ H fun x H1 => ∃ c, x = .bl c ∧ Q c H1
theorem pt_cmp {op : CmpOp} {t : TE} (h : PC X op a b t) (h1 : behindInMarks op b = false := by first | exact nobehind _ (by decide) (by decide) | rfl) : PT X (.Compare a [op] [b] pos) (tB t) := by
  intro pins s σ H Q I hw
  refine wpAny_isTrue_Compare1 (thn (h pins s σ H _ I hw) fun v s1 h1 => thn h1 fun u s2 h2 => thn h2 fun c s3 ⟨x, H1, I1, r1, q1⟩ => ?_) h1
  obtain ⟨d, rfl, q⟩ := q1
  cases r1
  exact wpAny_truthy_bool ⟨H1, I1, q⟩
/-- an expression whose value is a bool, as a test -/
theorem pt_val {e : Expr} {t : TE} (h : PE X e t) (he : ∀ whole, isTrue e X.env whole = (do let v ← whole; standAt e.pos; holding [v] (truthy v)) := by intro _; rfl) : PT X e (tB t) := by
  intro pins s σ H Q I hw
  refine isTrue_plain (thn (h pins s σ H _ I hw) fun v s1 ⟨x, H1, I1, r1, q1⟩ => ?_) (he _)
  obtain ⟨d, rfl, q⟩ := q1
  cases r1
  exact wpAny_truthy_bool ⟨H1, I1, q⟩
/-! ### and, or, not -/
variable {tA tB' : TT} {rest : List Expr}
def tAnd (t u : TT) : TT := fun σ H Q => t σ H fun c H1 => if c = true then u σ H1 Q else Q false H1
def tOr (t u : TT) : TT := fun σ H Q => t σ H fun c H1 => if c = true then Q true H1 else u σ H1 Q
def tNot (t : TT) : TT := fun σ H Q => t σ H fun c H1 => Q (!c) H1
theorem pw_and1 (ha : PT X a tA) : PW X (.BoolOp .And [a] pos) tA := by
  intro wh pins s σ H Q I h
  refine isTrue_and (thn (ha pins s σ H Q I h) fun c s1 e => ?_)
  cases c with
  | true => exact isTrue_and_nil e
  | false => exact e
theorem pw_or1 (ha : PT X a tA) : PW X (.BoolOp .Or [a] pos) tA := by
  intro wh pins s σ H Q I h
  refine isTrue_or (thn (ha pins s σ H Q I h) fun c s1 e => ?_)
  cases c with
  | false => exact isTrue_or_nil e
  | true => exact e
theorem pw_and (ha : PT X a tA) (hb : PW X (.BoolOp .And (b :: rest) pos) tB') : PW X (.BoolOp .And (a :: b :: rest) pos) (tAnd tA tB') := by
  intro wh pins s σ H Q I h
  refine isTrue_and (thn (ha pins s σ H _ I h) fun c s1 ⟨H1, I1, q1⟩ => ?_)
  cases c with
  | true => exact hb wh pins s1 σ H1 Q I1 q1
  | false => exact ⟨H1, I1, q1⟩
theorem pw_or (ha : PT X a tA) (hb : PW X (.BoolOp .Or (b :: rest) pos) tB') : PW X (.BoolOp .Or (a :: b :: rest) pos) (tOr tA tB') := by
  intro wh pins s σ H Q I h
  refine isTrue_or (thn (ha pins s σ H _ I h) fun c s1 ⟨H1, I1, q1⟩ => ?_)
  cases c with
  | true => exact ⟨H1, I1, q1⟩
  | false => exact hb wh pins s1 σ H1 Q I1 q1
theorem pt_not (ha : PT X a tA) : PT X (.UnaryOp .Not a pos) (tNot tA) := by
  intro pins s σ H Q I h
  exact isTrue_not (ha pins s σ H (fun c H1 => Q (!c) H1) I h)
/-- .. as values (bools) -/
def tAndV (ta tb : TE) : TE := fun σ H Q => ta σ H fun x H1 => ∃ c, x = .bl c ∧ if c = true then tb σ H1 Q else Q (.bl false) H1
def tOrV (ta tb : TE) : TE := fun σ H Q => ta σ H fun x H1 => ∃ c, x = .bl c ∧ if c = true then Q (.bl true) H1 else tb σ H1 Q
def tNotV (ta : TE) : TE := fun σ H Q => ta σ H fun x H1 => ∃ c, x = .bl c ∧ Q (.bl (!c)) H1
theorem pe_one {op} {t : TE} (h : PE X a t) : PE X (.BoolOp op [a] pos) t := fun pins s σ H Q I hw => BoolOp_one (h pins s σ H Q I hw)
theorem pe_and (ha : PE X a ta) (hb : PE X (.BoolOp .And (b :: rest) pos) tb) : PE X (.BoolOp .And (a :: b :: rest) pos) (tAndV ta tb) := by
  intro pins s σ H Q I h
  refine BoolOp_and (thn (ha pins s σ H _ I h) fun v s1 ⟨x, H1, I1, r1, q1⟩ => ?_)
  obtain ⟨c, rfl, q1⟩ := q1
  cases r1
  refine wpAny_truthy_bool ?_
  cases c with
  | true => exact hb pins s1 σ H1 Q I1 q1
  | false => exact ⟨.bl false, H1, I1, rfl, q1⟩
/-- a if t else b -/
def tIf (t : TT) (ta tb : TE) : TE := fun σ H Q => t σ H fun c H1 => if c = true then ta σ H1 Q else tb σ H1 Q
theorem pe_ifExp {c : Expr} (hc : PT X c tA) (ha : PE X a ta) (hb : PE X b tb) : PE X (.IfExp c a b pos) (tIf tA ta tb) := by
  intro pins s σ H Q I h
  refine wpAny_IfExp (thn (hc pins s σ H _ I h) fun d s1 ⟨H1, I1, q1⟩ => ?_)
  cases d with
  | true => exact ha pins s1 σ H1 Q I1 q1
  | false => exact hb pins s1 σ H1 Q I1 q1
end
end L2
namespace L2
open PySem PySem.Spec PyProof.Rows
/-! ### a list, a tuple that is read: tracked, frozen, or an object of the module -/
def SqL (K : PySem.W.Frag) (H : Hp) (a : Addr) (xs : List V) : Prop :=
  Rd H a (.lst xs) ∨
    ∃ (o : Obj) (its : Array Value) (n : Nat), K.lookup a = some o ∧ o.cls = .type "list" ∧ o.dict = none ∧ o.data = .seq its n ∧ its.size ≤ sizeLine ∧ Vals xs its.toList
def SqT (K : PySem.W.Frag) (H : Hp) (a : Addr) (xs : List V) : Prop :=
  Rd H a (.tup xs) ∨
    ∃ (o : Obj) (its : Array Value) (n : Nat), K.lookup a = some o ∧ o.cls = .type "tuple" ∧ o.data = .seq its n ∧ its.size ≤ sizeLine ∧ Vals xs its.toList
def absV : Value → Option V
  | .none => some .non
  | .bool b => some (.bl b)
  | .int i _ => some (.int i)
  | .str x _ => some (.str x)
  | .bytes b _ => some (.byt b)
  | .float b _ => some (.flt b)
  | .ref a => some (.ref a)
  | .type n => some (.ty n)
  | _ => none
theorem RelV.abs {x : V} {u : Value} (r : RelV x u) : absV u = some x := by
  cases x with
  | non => cases r; rfl
  | bl _ => cases r; rfl
  | int _ => obtain ⟨t, rfl⟩ := r; rfl
  | str _ => obtain ⟨t, rfl⟩ := r; rfl
  | byt _ => obtain ⟨t, rfl⟩ := r; rfl
  | flt _ => obtain ⟨t, rfl⟩ := r; rfl
  | ref _ => cases r; rfl
  | ty _ => cases r; rfl
theorem RelV.inj {x y : V} {u : Value} (r : RelV x u) (q : RelV y u) : x = y := Option.some.inj (r.abs.symm.trans q.abs)
theorem Vals.inj : ∀ {xs ys : List V} {us : List Value}, Vals xs us → Vals ys us → xs = ys
  | _, _, _, .nil, .nil => rfl
  | _, _, _, .cons r t, .cons r' t' => by rw [r.inj r', Vals.inj t t']
section
variable {X : Cx} {pins : List (Addr × Obj)} {σ : St} {H : Hp} {s : Shared} {a : Addr} {xs ys : List V}
theorem SqL.of {K : PySem.W.Frag} (h : H a = some (.lst xs)) : SqL K H a xs := .inl (.inl h)
theorem SqT.of {K : PySem.W.Frag} (h : H a = some (.tup xs)) : SqT K H a xs := .inl (.inl h)
theorem Inv.list (I : Inv X pins σ H s) (h : SqL X.K H a xs) : ∃ its : List Value, Vals xs its ∧ PlainL s.heap a its.toArray ∧ xs.length ≤ sizeLine := by
  rcases h with h | ⟨o, its, n, hk, hc, hd, hs, hz, r⟩
  · obtain ⟨z, its, n, r, e⟩ := h.ok I.hok
    exact ⟨its, r, ⟨_, n, e, rfl, rfl, rfl⟩, z⟩
  · refine ⟨its.toList, r, ⟨o, n, I.kIn a o hk, hc, hd, by simpa using hs⟩, ?_⟩
    have e := r.length
    simp only [Array.length_toList] at e
    omega
theorem Inv.tuple (I : Inv X pins σ H s) (h : SqT X.K H a xs) : ∃ its : List Value, Vals xs its ∧ IsTup s.heap a its.toArray ∧ xs.length ≤ sizeLine := by
  rcases h with h | ⟨o, its, n, hk, hc, hs, hz, r⟩
  · obtain ⟨z, its, r, p⟩ := h.ok I.hok
    exact ⟨its, r, p, z⟩
  · refine ⟨its.toList, r, ⟨o, I.kIn a o hk, hc, n, by simpa using hs⟩, ?_⟩
    have e := r.length
    simp only [Array.length_toList] at e
    omega
theorem Inv.list_inj (I : Inv X pins σ H s) (h : SqL X.K H a xs) (h' : SqL X.K H a ys) : xs = ys := by
  obtain ⟨its, r, ⟨o, n, e, _, _, d⟩, _⟩ := I.list h
  obtain ⟨its', r', ⟨o', n', e', _, _, d'⟩, _⟩ := I.list h'
  rw [e] at e'; cases e'
  rw [d] at d'
  injection d' with d1 _
  have : its = its' := by simpa using congrArg Array.toList d1
  subst this
  exact r.inj r'
end
/-! ### another wish about exceptions -/
abbrev Cx.wish (X : Cx) (E : Value → Shared → Prop) : Cx := { X with xe := E }
/-- no exception leaves -/
abbrev Cx.nox (X : Cx) : Cx := X.wish fun _ _ => False
theorem Cx.Ok.wish {X : Cx} (ok : X.Ok) (E : Value → Shared → Prop) : (X.wish E).Ok :=
  ⟨ok.mod, ok.kind, ok.glob, ok.blt, ok.above, ok.inj, ok.has, ok.cab, ok.hd, ok.frames, ok.stk, ok.exf, ok.bs, ok.bsz, ok.noex, ok.exfs, ok.funs, ok.frf⟩
theorem Cx.Ok.unwish {X : Cx} {E : Value → Shared → Prop} (ok : (X.wish E).Ok) : X.Ok :=
  ⟨ok.mod, ok.kind, ok.glob, ok.blt, ok.above, ok.inj, ok.has, ok.cab, ok.hd, ok.frames, ok.stk, ok.exf, ok.bs, ok.bsz, ok.noex, ok.exfs, ok.funs, ok.frf⟩
section
variable {X : Cx} {pins : List (Addr × Obj)} {σ : St} {H : Hp} {s : Shared} {E : Value → Shared → Prop}
theorem Inv.wish (I : Inv X pins σ H s) (E : Value → Shared → Prop) : Inv (X.wish E) pins σ H s := ⟨I.ok.wish E, I.os, I.bare, I.base, I.loc, I.cell, I.free, I.freeC, I.pin, I.hok, I.len⟩
theorem Inv.unwish (I : Inv (X.wish E) pins σ H s) : Inv X pins σ H s := ⟨I.ok.unwish, I.os, I.bare, I.base, I.loc, I.cell, I.free, I.freeC, I.pin, I.hok, I.len⟩
theorem SP.unwish {D : Ends} {f : Flow} {s' : Shared} (h : SP (X.wish E) pins D f s') : SP X pins D f s' := by
  cases f with
  | next => obtain ⟨σ', H', I, q⟩ := h; exact ⟨σ', H', I.unwish, q⟩
  | brk => obtain ⟨σ', H', I, q⟩ := h; exact ⟨σ', H', I.unwish, q⟩
  | cont => obtain ⟨σ', H', I, q⟩ := h; exact ⟨σ', H', I.unwish, q⟩
  | ret u => obtain ⟨v, σ', H', I, r, q⟩ := h; exact ⟨v, σ', H', I.unwish, r, q⟩
theorem PSs.nox {st : List Stmt} {t : TS} (h : PSs X.nox st t) : PSs X st t := fun pins s σ H D I hw =>
  wpAny_mono (h pins s σ H D (I.wish _) hw) (fun _ _ q => q.unwish) fun _ _ z => False.elim z
end
/-! ### blocks and small statements -/
section
variable {X : Cx} {st : Stmt} {rest : List Stmt} {t u : TS} {e : Expr} {te : TE} {pos : Pos}
def tNext : TS := fun D σ H => D.nx σ H
def tSeq (t u : TS) : TS := fun D σ H => t { D with nx := u D } σ H
theorem pss_nil : PSs X [] tNext := fun _ _ σ H _ I h => wpAny_execs_nil ⟨σ, H, I, h⟩
theorem pss_cons (h1 : PS X st t) (h2 : PSs X rest u) : PSs X (st :: rest) (tSeq t u) := by
  intro pins s σ H D I h
  refine wpAny_execs_cons (thn (h1 pins s σ H { D with nx := u D } I h) fun f s1 q => ?_)
  cases f with
  | next =>
    obtain ⟨σ', H', I', q⟩ := q
    exact h2 pins s1 σ' H' D I' q
  | ret v => exact q
  | brk => exact q
  | cont => exact q
theorem pss_one (h1 : PS X st t) : PSs X [st] t := by
  intro pins s σ H D I h
  refine wpAny_execs_cons (thn (h1 pins s σ H D I h) fun f s1 q => ?_)
  cases f with
  | next => exact wpAny_execs_nil q
  | ret v => exact q
  | brk => exact q
  | cont => exact q
def tBreak : TS := fun D σ H => D.bk σ H
def tCont : TS := fun D σ H => D.ct σ H
/-- in a def's body nothing is shown -/
theorem Inv.quiet {pins : List (Addr × Obj)} {σ : St} {H : Hp} {s : Shared} (I : Inv X pins σ H s) : interactive X.env = false := by simp [interactive, I.ok.kind]
/-- an expression whose value is dropped -/
def tDrop (te : TE) : TS := fun D σ H => te σ H fun _ H1 => D.nx σ H1
theorem ps_expr (he : PE X e te) (hs : swapsWith e none pos.line X.env = pure false := by rfl) : PS X (.Expr e pos) (tDrop te) := by
  intro pins s σ H D I h
  exact wpAny_Expr_any (thn (he pins s σ H _ I h) fun v s1 ⟨x, H1, I1, r1, q1⟩ => ⟨σ, H1, I1, q1⟩) I.quiet hs
def tRet (te : TE) : TS := fun D σ H => te σ H D.rt
theorem ps_ret (he : PE X e te) : PS X (.Return (some e) pos) (tRet te) := by
  intro pins s σ H D I h
  exact wpAny_Return_some (thn (he pins s σ H _ I h) fun v s1 ⟨x, H1, I1, r1, q1⟩ => ⟨x, σ, H1, I1, r1, q1⟩)
def tRetN : TS := fun D _ H => D.rt .non H
def tIfS (c : TT) (t u : TS) : TS := fun D σ H => c σ H fun b H1 => if b = true then t D σ H1 else u D σ H1
theorem ps_if {c : Expr} {a b : List Stmt} {tc : TT} (hc : PT X c tc) (ha : PSs X a t) (hb : PSs X b u) : PS X (.If c a b pos) (tIfS tc t u) := by
  intro pins s σ H D I h
  refine wpAny_If (thn (hc pins s σ H _ I h) fun d s1 ⟨H1, I1, q1⟩ => ?_)
  cases d with
  | true => exact ha pins s1 σ H1 D I1 q1
  | false => exact hb pins s1 σ H1 D I1 q1
/-- code that the proof never comes to -/
def tNever : TS := fun _ _ _ => False
theorem ps_never : PS X st tNever := fun _ _ _ _ _ _ h => h.elim
end
/-! ### targets -/
abbrev TG := V → St → Hp → (St → Hp → Prop) → Prop
abbrev TGs := List V → St → Hp → (St → Hp → Prop) → Prop
def PG (X : Cx) (target : Expr) (t : TG) : Prop :=
  ∀ (pins : List (Addr × Obj)) (s : Shared) (σ : St) (H : Hp) (v : V) (u : Value) (Q : St → Hp → Prop), Inv X pins σ H s → RelV v u → t v σ H Q →
    wpAny (model X.prog X.w) X.A (assign target X.env u) (fun _ s' => ∃ σ' H', Inv X pins σ' H' s' ∧ Q σ' H') X.xe s
/-- several targets, one after another -/
def PGs (X : Cx) (ts : List Expr) (t : TGs) : Prop :=
  ∀ (pins : List (Addr × Obj)) (s : Shared) (σ : St) (H : Hp) (vs : List V) (us : List Value) (Q : St → Hp → Prop), Inv X pins σ H s → Vals vs us → t vs σ H Q →
    wpAny (model X.prog X.w) X.A (assignInOrder ((assignEach ts X.env).map (·.2)) us) (fun _ s' => ∃ σ' H', Inv X pins σ' H' s' ∧ Q σ' H') X.xe s
/-- o[i] = v, by values -/
abbrev TSet := V → V → V → Hp → (Hp → Prop) → Prop
def PSet (X : Cx) (t : TSet) : Prop :=
  ∀ (pins : List (Addr × Obj)) (s : Shared) (σ : St) (H : Hp) (o i v : V) (ov iv u : Value) (Q : Hp → Prop), Inv X pins σ H s → RelV o ov → RelV i iv → RelV v u → t o i v H Q →
    wpAny (model X.prog X.w) X.A (setItem ov iv u) (fun _ s' => ∃ H', Inv X pins σ H' s' ∧ Q H') X.xe s
/-- a op= b, by values -/
abbrev TIp := V → V → Hp → VK → Prop
def PIp (X : Cx) (op : Operator) (t : TIp) : Prop :=
  ∀ (pins : List (Addr × Obj)) (s : Shared) (σ : St) (H : Hp) (x y : V) (v u : Value) (Q : VK), Inv X pins σ H s → RelV x v → RelV y u → t x y H Q →
    wpAny (model X.prog X.w) X.A (inplaceOp op v u) (EP X pins σ Q) X.xe s
section
variable {X : Cx} {pos : Pos}
def gName (i : Nat) : TG := fun v σ H Q => Q (σ.set i (some v)) H
theorem pg_name {i : Nat} {x : Str} (hN : X.N.Nodup) (hi : X.N[i]? = some x) (hx : Loc X.env.scope x) (hf : X.fn x = true ∨ X.env.scope.names.lookup x = some .local := by first | exact .inl rfl | exact .inr rfl | assumption) : PG X (.Name x pos) (gName i) := by
  intro pins s σ H v u Q I r h
  exact wpAny_assign_Name (store_ok I hN hi hx r (fun s' I' => ⟨_, H, I', h⟩) hf)
def gNil : TGs := fun vs σ H Q => vs = [] ∧ Q σ H
def gCons (t : TG) (u : TGs) : TGs := fun vs σ H Q => ∃ v r, vs = v :: r ∧ t v σ H fun σ' H' => u r σ' H' Q
theorem pgs_nil : PGs X [] gNil := by
  intro pins s σ H vs us Q I r h
  obtain ⟨e, h⟩ := h
  subst e
  cases r
  exact assignInOrder_nil ⟨σ, H, I, h⟩
theorem pgs_cons {e : Expr} {es : List Expr} {t : TG} {u : TGs} (h1 : PG X e t) (h2 : PGs X es u)
    (hs : (assignEach (e :: es) X.env).map (·.2) = assign e X.env :: (assignEach es X.env).map (·.2) := by rfl) : PGs X (e :: es) (gCons t u) := by
  intro pins s σ H vs us Q I r h
  obtain ⟨v, vr, e1, h⟩ := h
  subst e1
  cases r with
  | cons r rr =>
    rw [hs]
    refine assignInOrder_cons (thn (h1 pins s σ H _ _ _ I r h) fun _ s1 ⟨σ1, H1, I1, q1⟩ => ?_)
    exact h2 pins s1 σ1 H1 _ _ Q I1 rr q1
/-- (a, b, ..) = a tuple of that length -/
def gTup (K : PySem.W.Frag) (n : Nat) (t : TGs) : TG := fun v σ H Q => ∃ a xs, v = .ref a ∧ SqT K H a xs ∧ xs.length = n ∧ t xs σ H Q
theorem pg_tup {es : List Expr} {k : Nat} {t : TGs} {n : Nat} (hc : X.calm = true) (h : PGs X es t)
    (hn : (assignEach es X.env).length = n := by rfl) (hst : (assignEach es X.env).findIdx? (·.1) = none := by rfl) : PG X (.Tuple es k pos) (gTup X.K n t) := by
  intro pins s σ H v u Q I r hw
  obtain ⟨a, xs, e1, hq, hl, hw⟩ := hw
  subst e1
  cases r
  obtain ⟨its, rv, ht, hz⟩ := I.tuple hq
  refine assign_Tuple_tuple (I.ok.hd hc) ht (by simp [hn, ← hl, rv.length]) hst fun h' hx => ?_
  have I1 : Inv X pins σ H { s with heap := h' } := I.kept (t' := s.toks) fun b o e => hx b o (Nat.ne_of_lt (Heap.lt_size e)) e
  exact h pins _ σ H xs _ Q I1 (by simpa using rv) hw
/-- o[i] = .. -/
def gSub (to ti : TE) (t : TSet) : TG := fun v σ H Q => to σ H fun o H1 => ti σ H1 fun i H2 => t o i v H2 fun H3 => Q σ H3
theorem pg_sub {o i : Expr} {to ti : TE} {t : TSet} (ho : PE X o to) (hi : PE X i ti) (hs : PSet X t)
    (ha : ∀ v, assign (.Subscript o i pos) X.env v = (do
      let ov ← holding [v] (eval o X.env)
      let iv ← holding [v, ov] (eval i X.env)
      standAt pos
      holding [v, ov, iv] (setItem ov iv v)
      release [v, ov, iv] []) := by intro _; rfl) : PG X (.Subscript o i pos) (gSub to ti t) := by
  intro pins s σ H v u Q I r h
  rw [ha]
  refine wpAny_bind (wpAny_holding (thn (ho pins s σ H _ I h) fun ov s1 ⟨x, H1, I1, r1, q1⟩ => ?_))
  refine wpAny_bind (wpAny_holding (thn (hi pins s1 σ H1 _ I1 q1) fun iv s2 ⟨y, H2, I2, r2, q2⟩ => ?_))
  refine wpAny_bind (wpAny_standAt (wpAny_bind (wpAny_holding (thn (hs pins s2 σ H2 x y v ov iv u _ I2 r1 r2 r q2) fun _ s3 ⟨H3, I3, q3⟩ => ?_))))
  exact wpAny_release ⟨σ, H3, I3, q3⟩
/-- target = value -/
def tAsg (te : TE) (g : TG) : TS := fun D σ H => te σ H fun x H1 => g x σ H1 D.nx
theorem ps_asg {tg e : Expr} {te : TE} {g : TG} (he : PE X e te) (hg : PG X tg g) (hs : swapsWithSole [tg] e pos.line X.env = pure false := by rfl) (hw : swappedStores [tg] e X.env = pure none := by rfl)
    (h1 : (assignEach [tg] X.env).map (·.2) = [assign tg X.env] := by rfl) : PS X (.Assign [tg] e pos) (tAsg te g) := by
  intro pins s σ H D I h
  refine wpAny_Assign_stores (thn (he pins s σ H _ I h) fun v s1 ⟨x, H1, I1, r1, q1⟩ => ?_) hs hw
  rw [h1]
  exact thn (hg pins s1 σ H1 x v _ I1 r1 q1) fun _ s2 q => q
/-- name = value -/
theorem ps_set {i : Nat} {x : Str} {e : Expr} {te : TE} {pos' : Pos} (hN : X.N.Nodup) (hi : X.N[i]? = some x) (hx : Loc X.env.scope x) (he : PE X e te) (hs : swapsWith e (some (.Name x pos')) pos.line X.env = pure false := by rfl) (hf : X.fn x = true ∨ X.env.scope.names.lookup x = some .local := by first | exact .inl rfl | exact .inr rfl | assumption) :
    PS X (.Assign [.Name x pos'] e pos) (tAsg te (gName i)) := by
  intro pins s σ H D I h
  refine wpAny_Assign_Name (thn (he pins s σ H _ I h) fun v s1 ⟨y, H1, I1, r1, q1⟩ => ?_) hs
  exact store_ok I1 hN hi hx r1 (fun s2 I2 => ⟨_, H1, I2, q1⟩) hf
/-- a, b = x, y with plain local names: stored from the right; the pair itself is not tracked (the opening rows as in PyProof/Rows/TupAssign.lean:23) -/
def tPar (i j : Nat) (ta : TA) : TS := fun D σ H => ta σ H fun vs H1 => ∃ v w, vs = [v, w] ∧ D.nx ((σ.set i (some v)).set j (some w)) H1
/-- name op= e -/
def tAug (i : Nat) (te : TE) (ti : TIp) : TS := fun D σ H => ∃ x, σ[i]? = some (some x) ∧ te σ H fun y H1 => ti x y H1 fun z H2 => D.nx (σ.set i (some z)) H2
/-- o[i] op= e -/
def tAugS (to ti te : TE) (tget : V → V → Hp → VK → Prop) (tip : TIp) (tset : TSet) : TS := fun D σ H => to σ H fun o H1 => ti σ H1 fun i H2 => tget o i H2 fun x H3 => te σ H3 fun y H4 => tip x y H4 fun z H5 => tset o i z H5 fun H6 => D.nx σ H6
/-- o[i], by values -/
def PGet (X : Cx) (t : V → V → Hp → VK → Prop) : Prop :=
  ∀ (pins : List (Addr × Obj)) (s : Shared) (σ : St) (H : Hp) (o i : V) (ov iv : Value) (Q : VK), Inv X pins σ H s → RelV o ov → RelV i iv → t o i H Q →
    wpAny (model X.prog X.w) X.A (getItem ov iv) (EP X pins σ Q) X.xe s
/-- ints -/
def ipI (f : Int → Int → Int) : TIp := fun x y H Q => ∃ i j, x = .int i ∧ y = .int j ∧ Q (.int (f i j)) H
end
/-! ### while -/
section
variable {X : Cx} {pos : Pos}
/-- the invariant W with its measure -/
def tWhile (c : TT) (tb : TS) : TS := fun D σ H => ∃ W : Nat → St → Hp → Prop, (∃ m, W m σ H) ∧ ∀ m σ H, W m σ H →
  c σ H fun b H1 => if b = true then ∃ N : St → Hp → Prop, (∀ σ' H', N σ' H' → ∃ m', m' < m ∧ W m' σ' H') ∧ tb { D with nx := N, ct := N, bk := D.nx } σ H1 else D.nx σ H1
theorem ps_while {c : Expr} {body : List Stmt} {tc : TT} {tb : TS} (hp : PassesOwn (model X.prog X.w) X.A X.env X.xe) (hc : PT X c tc) (hb : PSs X body tb) : PS X (.While c body [] pos) (tWhile tc tb) := by
  intro pins s σ H D I h
  obtain ⟨W, ⟨m0, w0⟩, turn⟩ := h
  refine wpAny_While (codeAny_whileLoop (fun n s' => ∃ σ' H', Inv X pins σ' H' s' ∧ W n σ' H') ?_ m0 ⟨σ, H, I, w0⟩)
  rintro n s1 ⟨σ1, H1, I1, w1⟩
  refine wpAny_passesOwn hp (thn (hc pins s1 σ1 H1 _ I1 (turn n σ1 H1 w1)) fun b s2 ⟨H2, I2, q2⟩ => ?_)
  cases b with
  | true =>
    obtain ⟨N, hN, q2⟩ := q2
    rw [if_pos rfl]
    refine wpAny_passesOwn hp (thn (hb pins s2 σ1 H2 _ I2 q2) fun f s3 q3 => ?_)
    cases f with
    | next =>
      obtain ⟨σ3, H3, I3, n3⟩ := q3
      obtain ⟨m', hm, w3⟩ := hN σ3 H3 n3
      exact ⟨m', hm, σ3, H3, I3, w3⟩
    | cont =>
      obtain ⟨σ3, H3, I3, n3⟩ := q3
      obtain ⟨m', hm, w3⟩ := hN σ3 H3 n3
      exact ⟨m', hm, σ3, H3, I3, w3⟩
    | brk => exact q3
    | ret v => exact q3
  | false =>
    rw [if_neg Bool.false_ne_true]
    exact wpAny_execs_nil ⟨σ1, H2, I2, q2⟩
end
/-! ### what a loop or a comprehension walks -/
/-- at turn i: it yields x (the heap may grow), or it stops -/
structure It where
  go : Nat → Hp → Prop
  yld : Nat → Hp → V → Hp → Prop
  stop : Nat → Hp → Prop
/-- the iterator's own objects may turn: they are not the frame's, not pinned, younger than the entry (or a comprehension's own) -/
def FpOk (X : Cx) (pins : List (Addr × Obj)) (H : Hp) (b : Addr) : Prop :=
  H b = none ∧ b ≠ X.env.locals ∧ b ∉ X.fs ∧ (b ∈ X.ex ∨ X.s_0.heap.objs.size ≤ b) ∧ (∀ x c, X.env.cells.lookup x = some c → c ≠ b) ∧ ∀ p ∈ X.pn ++ pins, p.1 ≠ b
theorem Inv.fpOk {X : Cx} {pins : List (Addr × Obj)} {σ : St} {H H' : Hp} {s : Shared} {b : Addr} (I : Inv X pins σ H s) (hb : s.heap.objs.size ≤ b) (hn : H' b = none) : FpOk X pins H' b := by
  refine ⟨hn, Nat.ne_of_gt (Nat.lt_of_lt_of_le I.lt hb), I.nofs hb, .inr (Nat.le_trans I.sz hb), fun x c e z => ?_, fun p hp z => ?_⟩
  · obtain ⟨v, q⟩ := I.cell x c e
    exact absurd (Nat.lt_of_lt_of_le q.lt (by rw [z]; exact hb)) (Nat.lt_irrefl _)
  · exact absurd (Nat.lt_of_lt_of_le (Heap.lt_size (I.pin p hp).1) (by rw [z]; exact hb)) (Nat.lt_irrefl _)
structure Turn (P : Program) (w : World) (K : PySem.W.Frag) (tg : Expr) (J : It) (fp : List Addr) (it : Addr) (tn : Nat → Heap → Prop) : Prop where
  mem : it ∈ fp
  obj : ∀ i h, tn i h → ∀ b ∈ fp, ∃ o, h.get? b = some o ∧ ∀ v, o.data ≠ .cell v
  keep : ∀ i h h', tn i h → (∀ b ∈ fp, ∀ o, h.get? b = some o → h'.get? b = some o) → tn i h'
  item : ∀ (X : Cx), X.prog = P → X.w = w → X.K = K → X.calm = true → ∀ (i : Nat) (pins : List (Addr × Obj)) (s : Shared) (σ : St) (H : Hp) (E : Value → Shared → Prop), Inv X pins σ H s → (∀ b ∈ fp, FpOk X pins H b) → tn i s.heap → J.go i H →
    wpAny (model P w) X.A (pyNext (.ref it)) (fun r s1 => ∃ u, r = some u ∧
      wpAny (model P w) X.A (letOwnedTupleGo tg (.ref it) u) (fun _ s2 => ∃ x H', Inv X pins σ H' s2 ∧ RelV x u ∧ J.yld i H x H' ∧ tn (i + 1) s2.heap ∧ ∀ b ∈ fp, H' b = none) E s1) E s
  done : ∀ (X : Cx), X.prog = P → X.w = w → X.K = K → X.calm = true → ∀ (i : Nat) (pins : List (Addr × Obj)) (s : Shared) (σ : St) (H : Hp) (E : Value → Shared → Prop), Inv X pins σ H s → (∀ b ∈ fp, FpOk X pins H b) → tn i s.heap → J.stop i H →
    wpAny (model P w) X.A (pyNext (.ref it)) (fun r s1 => r = none ∧ Inv X pins σ H s1) E s
  self : ∀ (A : Around) (i : Nat) (s : Shared) (Q : Value → Shared → Prop) (E : Value → Shared → Prop), tn i s.heap → Q (.ref it) s → wpAny (model P w) A (pyIter (.ref it)) Q E s
abbrev TI := St → Hp → (It → Hp → Prop) → Prop
/-- an iterator has come -/
def PIE (X : Cx) (pins : List (Addr × Obj)) (σ : St) (tg : Expr) (R : It → Hp → Prop) (itv : Value) (s2 : Shared) : Prop :=
  ∃ (it : Addr) (fp : List Addr) (tn : Nat → Heap → Prop) (J : It) (H' : Hp), itv = .ref it ∧ Inv X pins σ H' s2 ∧ Turn X.prog X.w X.K tg J fp it tn ∧ tn 0 s2.heap ∧ (∀ b ∈ fp, FpOk X pins H' b) ∧ R J H'
def PI (X : Cx) (tg iter : Expr) (wi : TI) : Prop :=
  ∀ (pins : List (Addr × Obj)) (s : Shared) (σ : St) (H : Hp) (R : It → Hp → Prop), Inv X pins σ H s → wi σ H R →
    wpAny (model X.prog X.w) X.A (eval iter X.env) (fun v s1 => wpAny (model X.prog X.w) X.A (pyIter v) (PIE X pins σ tg R) X.xe s1) X.xe s
/-- the step ahead of the store is nothing for an iterator that keeps no tuple -/
theorem go_of {M : Model} {A : Around} {E : Value → Shared → Prop} {s : Shared} {tg : Expr} {it : Addr} {u : Value} {o : Obj} {n : String} {vs : Array Value} {Q : Unit → Shared → Prop} (ho : s.heap.get? it = some o) (hc : o.cls = .type n) (hd : o.data = .fields vs)
    (hn : ["enumerate", "zip", "dict_itemiterator", "dict_reverseitemiterator", "odict_iterator", "itertools.zip_longest", "itertools.pairwise"].contains n = false) (hQ : Q () s) : wpAny M A (letOwnedTupleGo tg (.ref it) u) Q E s := by
  unfold letOwnedTupleGo
  cases tg <;> first
    | exact wpAny_pure hQ
    | (cases u <;> first
        | exact wpAny_pure hQ
        | (refine wpAny_bind (wpAny_load ho ?_)
           rw [hc, hd]
           show wpAny M A (if (["enumerate", "zip", "dict_itemiterator", "dict_reverseitemiterator", "odict_iterator", "itertools.zip_longest", "itertools.pairwise"].contains n && vs[0]? == some (rawInt _)) = true then _ else _) Q E s
           rw [if_neg (by intro h; rw [hn, Bool.false_and] at h; cases h)]
           exact wpAny_pure hQ))
/-- the list at a, as it stands at each turn (a loop may append to it) -/
def Itl (K : PySem.W.Frag) (a : Addr) : It :=
  ⟨fun i H => ∃ xs x, SqL K H a xs ∧ xs[i]? = some x, fun i H x H' => H' = H ∧ ∀ xs, SqL K H a xs → xs[i]? = some x, fun i H => ∃ xs, SqL K H a xs ∧ xs.length ≤ i⟩
def Itt (K : PySem.W.Frag) (a : Addr) : It :=
  ⟨fun i H => ∃ xs x, SqT K H a xs ∧ xs[i]? = some x, fun i H x H' => H' = H ∧ ∀ xs, SqT K H a xs → xs[i]? = some x, fun i H => ∃ xs, SqT K H a xs ∧ xs.length ≤ i⟩
/-- lo, lo + 1, .. (n of them) -/
def Itr (lo : Int) (n : Nat) : It := ⟨fun i _ => i < n, fun i H x H' => H' = H ∧ x = .int (lo + i), fun i _ => n ≤ i⟩
theorem turn_list {P : Program} {w : World} {K : PySem.W.Frag} {tg : Expr} (a it : Addr) : Turn P w K tg (Itl K a) [it] it (fun i h => h.IsListIter it a i) where
  mem := by simp
  obj := fun i h st b hb => by
    have e : b = it := by simpa using hb
    subst e
    obtain ⟨o, e, c, d⟩ := st
    exact ⟨o, e, fun v z => by rw [d] at z; cases z⟩
  keep := fun i h h' st k => st.at fun o e => k it (by simp) o e
  item := by
    intro X hP hw hK hc i pins s σ H E I hf st hg
    subst hP hw hK
    obtain ⟨xs, x, hq, hx⟩ := hg
    obtain ⟨its, rv, p, hz⟩ := I.list hq
    obtain ⟨u, hu, ru⟩ := rv.get hx
    obtain ⟨f0, f1, f2, f3, f4, f5⟩ := hf it (by simp)
    refine wpAny_pyNext_list_item st p.isList (x := u) (by simpa using hu) fun h' st' sb => ?_
    have I1 : Inv X pins σ H { s with heap := h' } := I.turned (t' := s.toks) (fun b o hb e => (sb.2 b hb).trans e) f0 f1 f3 f4 f5
    obtain ⟨o, e, c, d⟩ := id st'
    exact ⟨u, rfl, go_of (s := { s with heap := h' }) e c d (by decide) ⟨x, H, I1, ru, ⟨rfl, fun ys hy => by rw [I.list_inj hy hq]; exact hx⟩, st', fun b hb => (hf b hb).1⟩⟩
  done := by
    intro X hP hw hK hc i pins s σ H E I hf st hg
    subst hP hw hK
    obtain ⟨xs, hq, hx⟩ := hg
    obtain ⟨its, rv, p, hz⟩ := I.list hq
    obtain ⟨f0, f1, f2, f3, f4, f5⟩ := hf it (by simp)
    have hl := rv.length
    exact wpAny_pyNext_list_end (I.ok.hd hc) st p.isList (by simp; omega) fun h' eb => ⟨rfl, I.turned (t' := s.toks) (fun b o hb e => eb b o hb e) f0 f1 f3 f4 f5⟩
  self := fun _ _ _ _ _ st h => wpAny_pyIter_listiter st h
theorem turn_range {P : Program} {w : World} {K : PySem.W.Frag} {tg : Expr} (it : Addr) (lo : Int) (n : Nat) : Turn P w K tg (Itr lo n) [it] it (fun i h => IsRangeIter h it (lo + (i : Nat) * 1) ((n : Int) - (i : Nat)) 1) where
  mem := by simp
  obj := fun i h st b hb => by
    have e : b = it := by simpa using hb
    subst e
    exact ⟨_, st, fun v z => by
      have z' : Data.fields _ = Data.cell v := z
      cases z'⟩
  keep := fun i h h' st k => k it (by simp) _ st
  item := by
    intro X hP hw hK hc i pins s σ H E I hf st hg
    subst hP hw hK
    obtain ⟨f0, f1, f2, f3, f4, f5⟩ := hf it (by simp)
    have W := Walks.range (prog := X.prog) (w := X.w) (I.ok.hd hc) it lo 1 n
    refine W.item i s _ _ hg st fun v h' tk hv st' kk => ?_
    obtain ⟨t, rfl⟩ := hv
    have I1 : Inv X pins σ H { s with heap := h', toks := tk } := I.turned (fun b o hb e => kk b o (by simpa using hb) e) f0 f1 f3 f4 f5
    refine ⟨_, rfl, go_of (s := { s with heap := h', toks := tk }) (n := "range_iterator") st' rfl rfl (by decide) ⟨.int (lo + i), H, I1, ⟨t, ?_⟩, ⟨rfl, rfl⟩, st', fun b hb => (hf b hb).1⟩⟩
    rw [Int.mul_one]
  done := by
    intro X hP hw hK hc i pins s σ H E I hf st hg
    subst hP hw hK
    obtain ⟨f0, f1, f2, f3, f4, f5⟩ := hf it (by simp)
    exact wpAny_pyNext_range_end (I.ok.hd hc) st (by have : n ≤ i := hg; omega) fun h' eb => ⟨rfl, I.turned (t' := s.toks) (fun b o hb e => eb b o hb e) f0 f1 f3 f4 f5⟩
  self := fun _ _ _ _ _ st h => wpAny_pyIter_rangeiter st h
end L2
namespace L2
open PySem PySem.Spec PyProof.Rows
section
variable {X : Cx} {tg : Expr}
def iList (K : PySem.W.Frag) (tl : TE) : TI := fun σ H R => tl σ H fun x H1 => ∃ a, x = .ref a ∧ (∃ xs, SqL K H1 a xs) ∧ R (Itl K a) H1
def iTup (K : PySem.W.Frag) (tl : TE) : TI := fun σ H R => tl σ H fun x H1 => ∃ a, x = .ref a ∧ (∃ xs, SqT K H1 a xs) ∧ R (Itt K a) H1
theorem pi_list {l : Expr} {tl : TE} (hl : PE X l tl) : PI X tg l (iList X.K tl) := by
  intro pins s σ H R I h
  refine thn (hl pins s σ H _ I h) fun v s1 ⟨x, H1, I1, r1, q1⟩ => ?_
  obtain ⟨a, e, ⟨xs, hq⟩, q⟩ := q1
  subst e
  cases r1
  obtain ⟨its, rv, p, hz⟩ := I1.list hq
  refine wpAny_pyIter_list p.isList ?_
  refine ⟨s1.heap.objs.size, [s1.heap.objs.size], _, _, H1, rfl, I1.kept (t' := s1.toks) fun b o e => Heap.get?_push_of_some _ e, turn_list a _, ⟨_, Heap.get?_push_size _ rfl, rfl, rfl⟩, fun b hb => ?_, q⟩
  have e : b = s1.heap.objs.size := by simpa using hb
  subst e
  exact I1.fpOk (Nat.le_refl _) (I1.hok.fresh (Nat.le_refl _))
/-- a range object just made, walked -/
theorem range_it {pins : List (Addr × Obj)} {σ : St} {H : Hp} {s : Shared} {R : It → Hp → Prop} {E : Value → Shared → Prop} {lo hi : Int} {t u v : Tok} {tk : Nat} (I : Inv X pins σ H s) (h1 : -(2 ^ 62) ≤ lo) (h2 : lo < 2 ^ 62) (h3 : -(2 ^ 62) ≤ hi) (h4 : hi < 2 ^ 62)
    (q : R (Itr lo (hi - lo).toNat) H) : wpAny (model X.prog X.w) X.A (pyIter (.ref s.heap.objs.size)) (PIE X pins σ tg R) E { s with heap := s.heap.push { cls := .type "range", data := .fields #[.int lo t, .int hi u, .int 1 v] }, toks := tk } := by
  refine wpAny_pyIter_range (IsRange.new ..) (small_one h1 h2 h3 h4) ?_
  have I1 : Inv X pins σ H { s with heap := s.heap.push { cls := .type "range", data := .fields #[.int lo t, .int hi u, .int 1 v] }, toks := tk } := I.kept fun b o e => Heap.get?_push_of_some _ e
  refine ⟨(s.heap.push { cls := .type "range", data := .fields #[.int lo t, .int hi u, .int 1 v] }).objs.size, [(s.heap.push { cls := .type "range", data := .fields #[.int lo t, .int hi u, .int 1 v] }).objs.size], _, _, H, rfl,
    I1.kept (t' := tk) fun b o e => Heap.get?_push_of_some _ e, turn_range _ lo (hi - lo).toNat, ?_, fun b hb => ?_, q⟩
  · have e1 : lo + ((0 : Nat) : Int) * 1 = lo := by simp
    have e2 : (((hi - lo).toNat : Nat) : Int) - ((0 : Nat) : Int) = Builtin.Range.rangeSize lo hi 1 := by rw [rangeSize_one]; split <;> omega
    show IsRangeIter _ _ (lo + ((0 : Nat) : Int) * 1) ((((hi - lo).toNat : Nat) : Int) - ((0 : Nat) : Int)) 1
    rw [e1, e2]
    exact Heap.get?_push_size _ rfl
  · have e : b = (s.heap.push { cls := .type "range", data := .fields #[.int lo t, .int hi u, .int 1 v] }).objs.size := by simpa using hb
    subst e
    exact I1.fpOk (Nat.le_refl _) (I1.hok.fresh (Nat.le_refl _))
def iRng1 (ta : TA) : TI := fun σ H R => ta σ H fun vs H1 => ∃ j : Int, vs = [.int j] ∧ -(2 ^ 62) ≤ j ∧ j < 2 ^ 62 ∧ R (Itr 0 j.toNat) H1
def iRng2 (ta : TA) : TI := fun σ H R => ta σ H fun vs H1 => ∃ i j : Int, vs = [.int i, .int j] ∧ (-(2 ^ 62) ≤ i ∧ i < 2 ^ 62 ∧ -(2 ^ 62) ≤ j ∧ j < 2 ^ 62) ∧ R (Itr i (j - i).toNat) H1
theorem pi_range2 {a b : Expr} {ta : TA} {p pos : Pos} (hg : Gl X "range") (hm : X.mg "range" = none) (ha : PA X [a, b] ta) (hs : starEach [a, b] X.env = [(false, eval a X.env), (false, eval b X.env)] := by rfl) (hs2 : starEach [b] X.env = [(false, eval b X.env)] := by rfl) :
    PI X tg (.Call (.Name "range" p) [a, b] [] pos) (iRng2 ta) := by
  intro pins s σ H R I h
  refine Call_ (ld_blt I hg hm boot_range (PyProof.Rows.callWith_type1 (thn (ha pos pins s σ H _ I h) fun us s1 ⟨vs, H1, I1, r1, q1⟩ => ?_) (by rw [hs, hs2]) (by rw [hs2]; rfl)))
  obtain ⟨i, j, e, ⟨q1, q2, q3, q4⟩, q⟩ := q1
  subst e
  cases r1 with
  | cons r rr =>
    cases rr with
    | cons r' rr =>
      cases rr
      obtain ⟨t, rfl⟩ := r
      obtain ⟨t', rfl⟩ := r'
      exact call_range_2 (range_it I1 q1 q2 q3 q4 q)
/-! ### for -/
/-- W: the invariant by the turn and a measure; N: what the body is to reach -/
def tFor (wi : TI) (g : TG) (tb : TS) : TS := fun D σ H => wi σ H fun J H1 => ∃ W : Nat → Nat → St → Hp → Prop, (∃ m, W 0 m σ H1) ∧ ∀ i m σ H, W i m σ H →
  (J.stop i H ∧ D.nx σ H) ∨ (J.go i H ∧ ∃ N : St → Hp → Prop, (∀ σ' H', N σ' H' → ∃ m', m' < m ∧ W (i + 1) m' σ' H') ∧ ∀ x H', J.yld i H x H' → g x σ H' fun σ2 H2 => tb { D with nx := N, ct := N, bk := D.nx } σ2 H2)
/-- the records at fp as they stand -/
def pinsAt (fp : List Addr) (h : Heap) : List (Addr × Obj) := fp.filterMap fun b => (h.get? b).map fun o => (b, o)
theorem mem_pinsAt {fp : List Addr} {h : Heap} {b : Addr} {o : Obj} (hb : b ∈ fp) (e : h.get? b = some o) : (b, o) ∈ pinsAt fp h := List.mem_filterMap.mpr ⟨b, hb, by rw [e]; rfl⟩
theorem of_pinsAt {fp : List Addr} {h : Heap} {p : Addr × Obj} (hp : p ∈ pinsAt fp h) : p.1 ∈ fp ∧ h.get? p.1 = some p.2 := by
  obtain ⟨b, hb, e⟩ := List.mem_filterMap.mp hp
  cases q : h.get? b with
  | none => rw [q] at e; cases e
  | some o =>
    rw [q] at e
    have e' : (b, o) = p := Option.some.inj e
    subst e'
    exact ⟨hb, q⟩
theorem Inv.pinned {pins : List (Addr × Obj)} {σ : St} {H : Hp} {s : Shared} {fp : List Addr} (I : Inv X pins σ H s) (hf : ∀ b ∈ fp, FpOk X pins H b) (ho : ∀ b ∈ fp, ∃ o, s.heap.get? b = some o ∧ ∀ v, o.data ≠ .cell v) : Inv X (pins ++ pinsAt fp s.heap) σ H s :=
  I.pins_of fun p hp => (List.mem_append.mp hp).elim (fun z => I.pin p (List.mem_append_right _ z)) fun z => by
    obtain ⟨hb, e⟩ := of_pinsAt z
    obtain ⟨f0, f1, f2, _⟩ := hf p.1 hb
    obtain ⟨o, e', d⟩ := ho p.1 hb
    rw [e] at e'; cases e'
    exact ⟨e, f0, f1, f2, d⟩
theorem Inv.unpinned {pins pl : List (Addr × Obj)} {σ : St} {H : Hp} {s : Shared} (I : Inv X (pins ++ pl) σ H s) : Inv X pins σ H s := I.pins_of fun p hp => I.pin p (List.mem_append_right _ (List.mem_append_left _ hp))
theorem ps_for {iter : Expr} {body : List Stmt} {wi : TI} {g : TG} {tb : TS} {pos : Pos} (hp : PassesOwn (model X.prog X.w) X.A X.env X.xe) (hc : X.calm = true) (hi : PI X tg iter wi) (hg : PG X tg g) (hb : PSs X body tb)
    (hs : ∀ x, foldedSetIterable iter X.env x = pure x := by intro _; rfl) : PS X (.For tg iter body [] pos) (tFor wi g tb) := by
  intro pins s σ H D I h
  refine wpAny_For (thn (hi pins s σ H _ I h) fun v s1 h1 => thn h1 fun itv s2 h2 => ?_) hs
  obtain ⟨it, fp, tn, J, H2, e, I2, T, st2, f2, W, ⟨m0, w0⟩, turn⟩ := h2
  subst e
  -- what stays true of the iterator's objects through the loop
  have stat : ∀ {H' : Hp}, (∀ b ∈ fp, H' b = none) → ∀ b ∈ fp, FpOk X pins H' b := fun hn b hb => ⟨hn b hb, (f2 b hb).2⟩
  refine codeAny_forLoop_any (fun n s' => ∃ i σ' H', Inv X pins σ' H' s' ∧ tn i s'.heap ∧ (∀ b ∈ fp, H' b = none) ∧ W i n σ' H') ?_ m0 ⟨0, σ, H2, I2, st2, fun b hb => (f2 b hb).1, w0⟩
  rintro n s3 ⟨i, σ3, H3, I3, st3, fr3, w3⟩
  rcases turn i n σ3 H3 w3 with ⟨stop, qn⟩ | ⟨go, N, hN, step⟩
  · refine wpAny_passesOwn hp (thn (T.done X rfl rfl rfl hc i pins s3 σ3 H3 X.xe I3 (stat fr3) st3 stop) fun r s4 ⟨hr, I4⟩ => ?_)
    subst hr
    exact wpAny_execs_nil ⟨σ3, H3, I4, qn⟩
  · refine wpAny_passesOwn hp (thn (T.item X rfl rfl rfl hc i pins s3 σ3 H3 X.xe I3 (stat fr3) st3 go) fun r s4 ⟨u, hr, h4⟩ => ?_)
    subst hr
    refine wpAny_passesOwn hp (thn h4 fun _ s5 ⟨x, H5, I5, r5, y5, st5, fr5⟩ => ?_)
    have I5' := I5.pinned (stat fr5) (T.obj _ _ st5)
    refine wpAny_passesOwn hp (thn (hg _ s5 σ3 H5 x u _ I5' r5 (step x H5 y5)) fun _ s6 ⟨σ6, H6, I6, q6⟩ => ?_)
    refine wpAny_passesOwn hp (thn (hb _ s6 σ6 H6 _ I6 q6) fun f s7 q7 => ?_)
    have again : ∀ {σ7 : St} {H7 : Hp}, Inv X (pins ++ pinsAt fp s5.heap) σ7 H7 s7 → N σ7 H7 → ∃ m, m < n ∧ ∃ i σ' H', Inv X pins σ' H' s7 ∧ tn i s7.heap ∧ (∀ b ∈ fp, H' b = none) ∧ W i m σ' H' := fun {σ7 H7} I7 n7 => by
      obtain ⟨m', hm, w7⟩ := hN σ7 H7 n7
      refine ⟨m', hm, i + 1, σ7, H7, I7.unpinned, T.keep _ _ _ st5 fun b hb o e => (I7.pin (b, o) (List.mem_append_right _ (List.mem_append_right _ (mem_pinsAt hb e)))).1, fun b hb => ?_, w7⟩
      obtain ⟨o, e, d⟩ := T.obj _ _ st5 b hb
      exact (I7.pin (b, o) (List.mem_append_right _ (List.mem_append_right _ (mem_pinsAt hb e)))).2.1
    cases f with
    | next => obtain ⟨σ7, H7, I7, n7⟩ := q7; exact again I7 n7
    | cont => obtain ⟨σ7, H7, I7, n7⟩ := q7; exact again I7 n7
    | brk => obtain ⟨σ7, H7, I7, q7⟩ := q7; exact ⟨σ7, H7, I7.unpinned, q7⟩
    | ret v => obtain ⟨x7, σ7, H7, I7, r7, q7⟩ := q7; exact ⟨x7, σ7, H7, I7.unpinned, r7, q7⟩
end
/-! ### the forms one uses -/
/-- over a list that the body leaves as it is -/
theorem for_list {K : PySem.W.Frag} {a : Addr} {xs : List V} {g : TG} {tb : TS} {D : Ends} {σ : St} {H : Hp} (Pv : Nat → St → Hp → Prop) (h0 : Pv 0 σ H) (hl : ∀ i σ H, i ≤ xs.length → Pv i σ H → SqL K H a xs)
    (hs : ∀ i x σ H, xs[i]? = some x → Pv i σ H → g x σ H fun σ2 H2 => tb { D with nx := Pv (i + 1), ct := Pv (i + 1), bk := D.nx } σ2 H2) (hd : ∀ σ H, Pv xs.length σ H → D.nx σ H) :
    ∃ W : Nat → Nat → St → Hp → Prop, (∃ m, W 0 m σ H) ∧ ∀ i m σ H, W i m σ H →
      ((Itl K a).stop i H ∧ D.nx σ H) ∨ ((Itl K a).go i H ∧ ∃ N : St → Hp → Prop, (∀ σ' H', N σ' H' → ∃ m', m' < m ∧ W (i + 1) m' σ' H') ∧ ∀ x H', (Itl K a).yld i H x H' → g x σ H' fun σ2 H2 => tb { D with nx := N, ct := N, bk := D.nx } σ2 H2) := by
  refine ⟨fun i m σ H => m = xs.length - i ∧ i ≤ xs.length ∧ Pv i σ H, ⟨xs.length, by simp, Nat.zero_le _, h0⟩, ?_⟩
  rintro i m σ H ⟨rfl, hi, p⟩
  have q := hl i σ H hi p
  by_cases hlt : i < xs.length
  · refine .inr ⟨⟨xs, xs[i], q, by simp [hlt]⟩, Pv (i + 1), fun σ' H' p' => ⟨xs.length - (i + 1), by omega, rfl, hlt, p'⟩, fun x H' y => ?_⟩
    obtain ⟨e, y⟩ := y
    subst e
    exact hs i x σ _ (y xs q) p
  · have e : i = xs.length := by omega
    subst e
    exact .inl ⟨⟨xs, q, Nat.le_refl _⟩, hd σ H p⟩
/-- while, by a word and a measure of the state -/
theorem while_by {c : TT} {tb : TS} {D : Ends} {σ : St} {H : Hp} (Pv : St → Hp → Prop) (μ : St → Hp → Nat) (h0 : Pv σ H)
    (hs : ∀ σ H, Pv σ H → c σ H fun b H1 => if b = true then tb { D with nx := fun σ' H' => Pv σ' H' ∧ μ σ' H' < μ σ H, ct := fun σ' H' => Pv σ' H' ∧ μ σ' H' < μ σ H, bk := D.nx } σ H1 else D.nx σ H1)
    (mono : ∀ σ H Q Q', (∀ b H1, Q b H1 → Q' b H1) → c σ H Q → c σ H Q') : tWhile c tb D σ H := by
  refine ⟨fun m σ H => m = μ σ H ∧ Pv σ H, ⟨_, rfl, h0⟩, ?_⟩
  rintro m σ H ⟨rfl, p⟩
  refine mono σ H _ _ (fun b H1 q => ?_) (hs σ H p)
  cases b with
  | true => exact ⟨_, fun σ' H' ⟨p', l⟩ => ⟨_, l, rfl, p'⟩, q⟩
  | false => exact q
end L2
namespace L2
open PySem PySem.Spec PyProof.Rows
abbrev R2 := V → V → Hp → VK → Prop
/-- a two-place operation on values: f is binaryOp op, inplaceOp op or compareOp op -/
def OpR (X : Cx) (f : Value → Value → Sem Value) (r : R2) : Prop :=
  ∀ (pins : List (Addr × Obj)) (s : Shared) (σ : St) (H : Hp) (x y : V) (v u : Value) (Q : VK), Inv X pins σ H s → RelV x v → RelV y u → r x y H Q →
    wpAny (model X.prog X.w) X.A (f v u) (EP X pins σ Q) X.xe s
/-- a one-place operation -/
def UnR (X : Cx) (f : Value → Sem Value) (r : V → Hp → VK → Prop) : Prop :=
  ∀ (pins : List (Addr × Obj)) (s : Shared) (σ : St) (H : Hp) (x : V) (v : Value) (Q : VK), Inv X pins σ H s → RelV x v → r x H Q →
    wpAny (model X.prog X.w) X.A (f v) (EP X pins σ Q) X.xe s
/-- a call of a value that is known (a builtin, a type) with values -/
def CallR (X : Cx) (f : Value) (r : List V → Hp → VK → Prop) : Prop :=
  ∀ (pins : List (Addr × Obj)) (s : Shared) (σ : St) (H : Hp) (xs : List V) (us : List Value) (Q : VK), Inv X pins σ H s → Vals xs us → r xs H Q →
    wpAny (model X.prog X.w) X.A (call f us) (EP X pins σ Q) X.xe s
/-- a value's truth -/
def TruR (X : Cx) (r : V → Hp → (Bool → Hp → Prop) → Prop) : Prop :=
  ∀ (pins : List (Addr × Obj)) (s : Shared) (σ : St) (H : Hp) (x : V) (v : Value) (Q : Bool → Hp → Prop), Inv X pins σ H s → RelV x v → r x H Q →
    wpAny (model X.prog X.w) X.A (truthy v) (TP X pins σ Q) X.xe s
def tOp (r : R2) (ta tb : TE) : TE := fun σ H Q => ta σ H fun x H1 => tb σ H1 fun y H2 => r x y H2 Q
def tUn (r : V → Hp → VK → Prop) (ta : TE) : TE := fun σ H Q => ta σ H fun x H1 => r x H1 Q
/-- ints in, under C, and a value out -/
def rI (C : Int → Int → Prop) (g : Int → Int → V) : R2 := fun x y H Q => ∃ i j, x = .int i ∧ y = .int j ∧ C i j ∧ Q (g i j) H
def rI0 (g : Int → Int → V) : R2 := fun x y H Q => ∃ i j, x = .int i ∧ y = .int j ∧ Q (g i j) H
def rU (g : Int → V) : V → Hp → VK → Prop := fun x H Q => ∃ i, x = .int i ∧ Q (g i) H
section
variable {X : Cx} {a b c : Expr} {ta tb tc : TE} {pos : Pos}
theorem binT (ha : PE X a ta) (hb : PE X b tb) {pins : List (Addr × Obj)} {s : Shared} {σ : St} {H : Hp} {R : V → V → Hp → Prop} (I : Inv X pins σ H s)
    (h : ta σ H fun x H1 => tb σ H1 fun y H2 => R x y H2) {Q : Value → Shared → Prop} {f : Value → Value → Sem Value}
    (hf : ∀ v u s2 x y H2, Inv X pins σ H2 s2 → RelV x v → RelV y u → R x y H2 → wpAny (model X.prog X.w) X.A (f v u) Q X.xe s2) :
    wpAny (model X.prog X.w) X.A (eval a X.env) (fun v s₁ => wpAny (model X.prog X.w) X.A (eval b X.env) (fun u s₂ => wpAny (model X.prog X.w) X.A (f v u) Q X.xe s₂) X.xe s₁) X.xe s := by
  refine thn (ha pins s σ H _ I h) fun v s1 ⟨x, H1, I1, r1, q1⟩ => ?_
  refine thn (hb pins s1 σ H1 _ I1 q1) fun u s2 ⟨y, H2, I2, r2, q2⟩ => ?_
  exact hf v u s2 x y H2 I2 r1 r2 q2
theorem pe_op {op : Operator} {r : R2} (ho : OpR X (binaryOp op) r) (ha : PE X a ta) (hb : PE X b tb) : PE X (.BinOp a op b pos) (tOp r ta tb) := by
  intro pins s σ H Q I h
  exact wpAny_BinOp (binT ha hb I h fun v u s2 x y H2 I2 rx ry q => ho pins s2 σ H2 x y v u Q I2 rx ry q)
theorem pe_un {op : UnaryOp} {r : V → Hp → VK → Prop} (ho : UnR X (unaryOp op) r) (ha : PE X a ta) : PE X (.UnaryOp op a pos) (tUn r ta) := by
  intro pins s σ H Q I h
  exact UnaryOp_ (thn (ha pins s σ H _ I h) fun v s1 ⟨x, H1, I1, r1, q1⟩ => ho pins s1 σ H1 x v Q I1 r1 q1)
/-! ### ints -/
theorem opI {f : Value → Value → Sem Value} {C : Int → Int → Prop} {g : Int → Int → Int}
    (rule : ∀ (i j : Int) (t u : Tok) (s : Shared) (Q : Value → Shared → Prop) (E : Value → Shared → Prop), C i j → Q (.int (g i j) s.toks) { s with toks := s.toks + 1 } → wpAny (model X.prog X.w) X.A (f (.int i t) (.int j u)) Q E s) :
    OpR X f (rI C fun i j => .int (g i j)) := by
  intro pins s σ H x y v u Q I rx ry h
  obtain ⟨i, j, rfl, rfl, hc, q⟩ := h
  obtain ⟨t, rfl⟩ := rx
  obtain ⟨t', rfl⟩ := ry
  exact rule i j t t' s _ _ hc ⟨.int (g i j), H, I.tok _, ⟨_, rfl⟩, q⟩
theorem opI0 {f : Value → Value → Sem Value} {g : Int → Int → Int}
    (rule : ∀ (i j : Int) (t u : Tok) (s : Shared) (Q : Value → Shared → Prop) (E : Value → Shared → Prop), Q (.int (g i j) s.toks) { s with toks := s.toks + 1 } → wpAny (model X.prog X.w) X.A (f (.int i t) (.int j u)) Q E s) :
    OpR X f (rI0 fun i j => .int (g i j)) := by
  intro pins s σ H x y v u Q I rx ry h
  obtain ⟨i, j, rfl, rfl, q⟩ := h
  obtain ⟨t, rfl⟩ := rx
  obtain ⟨t', rfl⟩ := ry
  exact rule i j t t' s _ _ ⟨.int (g i j), H, I.tok _, ⟨_, rfl⟩, q⟩
theorem opB0 {f : Value → Value → Sem Value} {g : Int → Int → Bool}
    (rule : ∀ (i j : Int) (t u : Tok) (s : Shared) (Q : Value → Shared → Prop) (E : Value → Shared → Prop), Q (.bool (g i j)) s → wpAny (model X.prog X.w) X.A (f (.int i t) (.int j u)) Q E s) :
    OpR X f (rI0 fun i j => .bl (g i j)) := by
  intro pins s σ H x y v u Q I rx ry h
  obtain ⟨i, j, rfl, rfl, q⟩ := h
  obtain ⟨t, rfl⟩ := rx
  obtain ⟨t', rfl⟩ := ry
  exact rule i j t t' s _ _ ⟨.bl (g i j), H, I, rfl, q⟩
def CDiv (i j : Int) : Prop := 0 < j ∧ j < 1073741824
def CDivN (i j : Int) : Prop := j ≠ 0 ∧ j.natAbs < 1073741824
def CPow (i j : Int) : Prop := 0 ≤ j ∧ j ≤ 1000000 ∧ i.natAbs < 2 ^ 64
def CMul (i j : Int) : Prop := (-(2 ^ 64) < i ∧ i < 2 ^ 64) ∨ (-(2 ^ 64) < j ∧ j < 2 ^ 64)
theorem CMul.ok {i j : Int} (h : CMul i j) : IntMulOk i j := by
  rcases h with ⟨h1, h2⟩ | ⟨h1, h2⟩
  · exact .of_left (intBits_le_64 h1 h2)
  · exact .of_right (intBits_le_64 h1 h2)
theorem op_add : OpR X (binaryOp .Add) (rI0 fun i j => .int (i + j)) := opI0 fun _ _ _ _ _ _ _ q => add_int q
theorem op_sub : OpR X (binaryOp .Sub) (rI0 fun i j => .int (i - j)) := opI0 fun _ _ _ _ _ _ _ q => sub_int q
theorem op_mul : OpR X (binaryOp .Mult) (rI CMul fun i j => .int (i * j)) := opI fun _ _ _ _ _ _ _ hc q => mul_int q hc.ok
/-- % by a positive divisor of any size -/
theorem op_mod : OpR X (binaryOp .Mod) (rI (fun _ j => 0 < j) fun i j => .int (i % j)) := opI fun i j _ _ _ _ _ hc q => by
  have h1 : (0 : Int) < j := hc
  exact mod_int' (by omega) (by rw [Int.fmod_eq_emod_of_nonneg i (by omega)]; exact q)
theorem unI {f : Value → Sem Value} {g : Int → Int}
    (rule : ∀ (i : Int) (t : Tok) (s : Shared) (Q : Value → Shared → Prop) (E : Value → Shared → Prop), Q (.int (g i) s.toks) { s with toks := s.toks + 1 } → wpAny (model X.prog X.w) X.A (f (.int i t)) Q E s) :
    UnR X f (rU fun i => .int (g i)) := by
  intro pins s σ H x v Q I rx h
  obtain ⟨i, rfl, q⟩ := h
  obtain ⟨t, rfl⟩ := rx
  exact rule i t s _ _ ⟨.int (g i), H, I.tok _, ⟨_, rfl⟩, q⟩
theorem un_neg : UnR X (unaryOp .USub) (rU fun i => .int (-i)) := unI fun _ _ _ _ _ q => neg_int q
/-! ### bools among ints: n += (a < b) -/
end
/-! ### comparisons -/
/-- the scalars that == tells apart as data does -/
def scal : V → V → Bool
  | .non, .non => true | .non, .int _ => true | .int _, .non => true | .non, .bl _ => true | .bl _, .non => true | .non, .str _ => true | .str _, .non => true
  | .int _, .int _ => true | .bl _, .bl _ => true | .str _, .str _ => true | .byt _, .byt _ => true
  | .int _, .str _ => true | .str _, .int _ => true | .bl _, .str _ => true | .str _, .bl _ => true
  | _, _ => false
def rEq : R2 := fun x y H Q => scal x y = true ∧ Q (.bl (decide (x = y))) H
def rNe : R2 := fun x y H Q => scal x y = true ∧ Q (.bl (!decide (x = y))) H
theorem dec_int {i j : Int} : decide (V.int i = V.int j) = (i == j) := by
  rw [Bool.eq_iff_iff]
  simp
theorem dec_bl {i j : Bool} : decide (V.bl i = V.bl j) = (i == j) := by
  rw [Bool.eq_iff_iff]
  simp
theorem dec_str {i j : Str} : decide (V.str i = V.str j) = (i == j) := by
  rw [Bool.eq_iff_iff]
  simp
theorem dec_byt {i j : Array UInt8} : decide (V.byt i = V.byt j) = (i.toList == j.toList) := by
  rw [Bool.eq_iff_iff]
  cases i
  cases j
  simp
section
variable {X : Cx} {a b c : Expr} {ta tb tc : TE} {pos : Pos}
theorem fin_bl {pins : List (Addr × Obj)} {σ : St} {H : Hp} {s : Shared} {Q : VK} {k k' : Bool} (I : Inv X pins σ H s) (q : Q (.bl k) H) (e : k = k') : EP X pins σ Q (.bool k') s := by
  subst e
  exact ⟨.bl k, H, I, rfl, q⟩
theorem op_eq : OpR X (compareOp .Eq) rEq := by
  intro pins s σ H x y v u Q I rx ry h
  obtain ⟨hs, q⟩ := h
  cases x with
  | non =>
    cases rx
    cases y with
    | non => cases ry; exact PySem.EqNone.eq_none_none (fin_bl I q (by simp))
    | bl j => cases ry; exact PySem.EqNone.eq_none_bool (fin_bl I q (by simp))
    | int j => obtain ⟨t', rfl⟩ := ry; exact PySem.EqNone.eq_none_int (fin_bl I q (by simp))
    | str j => obtain ⟨t', rfl⟩ := ry; exact PySem.EqNone.eq_none_str (fin_bl I q (by simp))
    | _ => exact absurd (show false = true from hs) Bool.false_ne_true
  | bl i =>
    cases rx
    cases y with
    | non => cases ry; exact PySem.EqNone.eq_bool_none (fin_bl I q (by simp))
    | bl j => cases ry; exact eq_bool (fin_bl I q dec_bl)
    | str j => obtain ⟨t', rfl⟩ := ry; exact PySem.EqMixed.eq_bool_str (fin_bl I q (by simp))
    | _ => exact absurd (show false = true from hs) Bool.false_ne_true
  | int i =>
    obtain ⟨t, rfl⟩ := rx
    cases y with
    | non => cases ry; exact PySem.EqNone.eq_int_none (fin_bl I q (by simp))
    | int j => obtain ⟨t', rfl⟩ := ry; exact eq_int (fin_bl I q dec_int)
    | str j => obtain ⟨t', rfl⟩ := ry; exact PySem.EqMixed.eq_int_str (fin_bl I q (by simp))
    | _ => exact absurd (show false = true from hs) Bool.false_ne_true
  | str i =>
    obtain ⟨t, rfl⟩ := rx
    cases y with
    | non => cases ry; exact PySem.EqNone.eq_str_none (fin_bl I q (by simp))
    | bl j => cases ry; exact PySem.EqMixed.eq_str_bool (fin_bl I q (by simp))
    | int j => obtain ⟨t', rfl⟩ := ry; exact PySem.EqMixed.eq_str_int (fin_bl I q (by simp))
    | str j => obtain ⟨t', rfl⟩ := ry; exact eq_str (fin_bl I q dec_str)
    | _ => exact absurd (show false = true from hs) Bool.false_ne_true
  | byt i =>
    obtain ⟨t, rfl⟩ := rx
    cases y with
    | byt j => obtain ⟨t', rfl⟩ := ry; exact PySem.W.eq_bytes (fin_bl I q dec_byt)
    | _ => exact absurd (show false = true from hs) Bool.false_ne_true
  | _ => cases y <;> exact absurd (show false = true from hs) Bool.false_ne_true
theorem op_ne : OpR X (compareOp .NotEq) rNe := by
  intro pins s σ H x y v u Q I rx ry h
  obtain ⟨hs, q⟩ := h
  cases x with
  | non =>
    cases rx
    cases y with
    | non => cases ry; exact PySem.EqNone.ne_none_none (fin_bl I q (by simp))
    | bl j => cases ry; exact PySem.EqNone.ne_none_bool (fin_bl I q (by simp))
    | int j => obtain ⟨t', rfl⟩ := ry; exact PySem.EqNone.ne_none_int (fin_bl I q (by simp))
    | str j => obtain ⟨t', rfl⟩ := ry; exact PySem.EqNone.ne_none_str (fin_bl I q (by simp))
    | _ => exact absurd (show false = true from hs) Bool.false_ne_true
  | bl i =>
    cases rx
    cases y with
    | non => cases ry; exact PySem.EqNone.ne_bool_none (fin_bl I q (by simp))
    | bl j => cases ry; exact ne_bool (fin_bl I q (congrArg not dec_bl))
    | str j => obtain ⟨t', rfl⟩ := ry; exact PySem.EqMixed.ne_bool_str (fin_bl I q (by simp))
    | _ => exact absurd (show false = true from hs) Bool.false_ne_true
  | int i =>
    obtain ⟨t, rfl⟩ := rx
    cases y with
    | non => cases ry; exact PySem.EqNone.ne_int_none (fin_bl I q (by simp))
    | int j => obtain ⟨t', rfl⟩ := ry; exact ne_int (fin_bl I q (congrArg not dec_int))
    | str j => obtain ⟨t', rfl⟩ := ry; exact PySem.EqMixed.ne_int_str (fin_bl I q (by simp))
    | _ => exact absurd (show false = true from hs) Bool.false_ne_true
  | str i =>
    obtain ⟨t, rfl⟩ := rx
    cases y with
    | non => cases ry; exact PySem.EqNone.ne_str_none (fin_bl I q (by simp))
    | bl j => cases ry; exact PySem.EqMixed.ne_str_bool (fin_bl I q (by simp))
    | int j => obtain ⟨t', rfl⟩ := ry; exact PySem.EqMixed.ne_str_int (fin_bl I q (by simp))
    | str j => obtain ⟨t', rfl⟩ := ry; exact ne_str (fin_bl I q (congrArg not dec_str))
    | _ => exact absurd (show false = true from hs) Bool.false_ne_true
  | byt i =>
    obtain ⟨t, rfl⟩ := rx
    cases y with
    | byt j => obtain ⟨t', rfl⟩ := ry; exact PySem.W.ne_bytes (fin_bl I q (congrArg not dec_byt))
    | _ => exact absurd (show false = true from hs) Bool.false_ne_true
  | _ => cases y <;> exact absurd (show false = true from hs) Bool.false_ne_true
theorem op_lt : OpR X (compareOp .Lt) (rI0 fun i j => .bl (decide (i < j))) := opB0 fun _ _ _ _ _ _ _ q => lt_int q
theorem op_le : OpR X (compareOp .LtE) (rI0 fun i j => .bl (decide (i ≤ j))) := opB0 fun _ _ _ _ _ _ _ q => le_int q
theorem op_gt : OpR X (compareOp .Gt) (rI0 fun i j => .bl (decide (j < i))) := opB0 fun _ _ _ _ _ _ _ q => gt_int q
theorem op_ge : OpR X (compareOp .GtE) (rI0 fun i j => .bl (decide (j ≤ i))) := opB0 fun _ _ _ _ _ _ _ q => ge_int q
/-- is None, is not None: the right side a value none -/
theorem op_isN : OpR X (compareOp .Is) (fun x y H Q => y = .non ∧ Q (.bl (decide (x = .non))) H) := by
  intro pins s σ H x y v u Q I rx ry h
  obtain ⟨rfl, q⟩ := h
  cases ry
  refine is_none_gen (fin_bl I q ?_)
  cases x <;> first
    | (cases rx; rfl)
    | (obtain ⟨t, rfl⟩ := rx; rfl)
/-- is, is not of two objects that are tracked lists or instances -/
def isObj : HO → Bool
  | .lst _ => true
  | .ins _ _ _ => true
  | _ => false
theorem nomark (b : Expr) {op : CmpOp} (h : op ≠ .In := by decide) (h2 : op ≠ .NotIn := by decide) : behindInMarks op b = false := by
  have e1 : (op == CmpOp.In) = false := by cases op <;> first | rfl | exact absurd rfl h
  have e2 : (op == CmpOp.NotIn) = false := by cases op <;> first | rfl | exact absurd rfl h2
  cases b <;> simp [behindInMarks, e1, e2]
/-- a comparison as a value; hm: nomark b, or (for in, not in) by with_unfolding_all rfl -/
theorem pe_cmpR {op : CmpOp} {r : R2} (ho : OpR X (compareOp op) r) (ha : PE X a ta) (hb : PE X b tb) (hm : behindInMarks op b = false) : PE X (.Compare a [op] [b] pos) (tOp r ta tb) := by
  intro pins s σ H Q I h
  exact wpAny_Compare1 (binT ha hb I h fun v u s2 x y H2 I2 rx ry q => ho pins s2 σ H2 x y v u Q I2 rx ry q) hm
/-- a reading of a value as a test -/
def tTest (t : TE) : TT := fun σ H Q => t σ H fun x H' => ∃ k, x = .bl k ∧ Q k H'
theorem pt_cmpR {op : CmpOp} {r : R2} (ho : OpR X (compareOp op) r) (ha : PE X a ta) (hb : PE X b tb) (hm : behindInMarks op b = false) : PT X (.Compare a [op] [b] pos) (tTest (tOp r ta tb)) := by
  intro pins s σ H Q I h
  refine wpAny_isTrue_Compare1 (thn (ha pins s σ H _ I h) fun v s1 ⟨x, H1, I1, r1, q1⟩ => thn (hb pins s1 σ H1 _ I1 q1) fun u s2 ⟨y, H2, I2, r2, q2⟩ =>
    thn (ho pins s2 σ H2 x y v u _ I2 r1 r2 q2) fun c s3 ⟨z, H3, I3, r3, k, e, q3⟩ => ?_) hm
  subst e
  cases r3
  exact wpAny_truthy_bool ⟨H3, I3, q3⟩
/-- a op1 b op2 c -/
def tChain (r r' : R2) (ta tb tc : TE) : TE := fun σ H Q => ta σ H fun x H1 => tb σ H1 fun y H2 => r x y H2 fun z H3 => ∃ k, z = .bl k ∧
  (if k = true then tc σ H3 fun w' H4 => r' y w' H4 Q else Q (.bl false) H3)
/-! ### truth -/
/-- a value's truth by the abstract heap -/
def TruV (K : PySem.W.Frag) (x : V) (H : Hp) (k : Bool) : Prop :=
  match x with
  | .non => k = false
  | .bl b => k = b
  | .int i => k = (i != 0)
  | .str y => y.length ≤ sizeLine ∧ k = ((y.length : Int) != 0)
  | .byt y => y.size ≤ sizeLine ∧ k = ((y.size : Int) != 0)
  | .ref p => (∃ xs, SqL K H p xs ∧ k = !xs.isEmpty) ∨ (∃ xs, SqT K H p xs ∧ k = !xs.isEmpty) ∨ ∃ kvs, H p = some (.dK kvs) ∧ k = !kvs.isEmpty
  | _ => False
theorem line63 : (sizeLine : Nat) < 2 ^ 63 := by rw [sizeLine_eq]; decide
/-! ### strs and bytes -/
theorem op_add_str : OpR X (binaryOp .Add) (fun x y H Q => ∃ i j, x = .str i ∧ y = .str j ∧ i.length + j.length ≤ sizeLine ∧ Q (.str (i ++ j)) H) := by
  intro pins s σ H x y v u Q I rx ry h
  obtain ⟨i, j, rfl, rfl, hz, q⟩ := h
  obtain ⟨t, rfl⟩ := rx
  obtain ⟨t', rfl⟩ := ry
  exact add_str (fun t' tk => ⟨.str (i ++ j), H, I.tok _, ⟨_, rfl⟩, q⟩) hz
def PlainIxT (b : Expr) : Prop := ∀ o i, subscripted b false o i = operate [o, i] (getItem o i)
/-! ### scalar builtins, by CallR -/
theorem vals1 {x : V} {us : List Value} (r : Vals [x] us) : ∃ u, us = [u] ∧ RelV x u := by
  cases r with
  | cons r1 r2 => cases r2; exact ⟨_, rfl, r1⟩
theorem vals2 {x y : V} {us : List Value} (r : Vals [x, y] us) : ∃ u w', us = [u, w'] ∧ RelV x u ∧ RelV y w' := by
  cases r with
  | cons r1 r2 =>
    cases r2 with
    | cons r3 r4 => cases r4; exact ⟨_, _, rfl, r1, r3⟩
theorem call_abs : CallR X (.builtin "abs") (fun xs H Q => ∃ i, xs = [.int i] ∧ Q (.int (if i < 0 then -i else i)) H) := by
  intro pins s σ H xs us Q I r h
  obtain ⟨i, rfl, q⟩ := h
  obtain ⟨u, rfl, t, rfl⟩ := vals1 r
  exact call_abs_int fun u tk => ⟨.int (if i < 0 then -i else i), H, I.tok _, ⟨_, rfl⟩, q⟩
theorem call_max2 (hc : X.calm = true) : CallR X (.builtin "max") (fun xs H Q => ∃ i j, xs = [.int i, .int j] ∧ Q (.int (if j > i then j else i)) H) := by
  intro pins s σ H xs us Q I r h
  obtain ⟨i, j, rfl, q⟩ := h
  obtain ⟨u, w', rfl, ⟨t, rfl⟩, ⟨t', rfl⟩⟩ := vals2 r
  refine max_two_ints (I.ok.hd hc) fun h' tk k => ⟨_, H, I.kept k, ?_, q⟩
  by_cases hj : j > i
  · rw [if_pos hj, if_pos hj]; exact ⟨_, rfl⟩
  · rw [if_neg hj, if_neg hj]; exact ⟨_, rfl⟩
theorem call_min2 (hc : X.calm = true) : CallR X (.builtin "min") (fun xs H Q => ∃ i j, xs = [.int i, .int j] ∧ Q (.int (if j < i then j else i)) H) := by
  intro pins s σ H xs us Q I r h
  obtain ⟨i, j, rfl, q⟩ := h
  obtain ⟨u, w', rfl, ⟨t, rfl⟩, ⟨t', rfl⟩⟩ := vals2 r
  refine min_two_ints (I.ok.hd hc) fun h' tk k => ⟨_, H, I.kept k, ?_, q⟩
  by_cases hj : j < i
  · rw [if_pos hj, if_pos hj]; exact ⟨_, rfl⟩
  · rw [if_neg hj, if_neg hj]; exact ⟨_, rfl⟩
theorem call_ord : CallR X (.builtin "ord") (fun xs H Q => ∃ x, xs = [.str x] ∧ x.length = 1 ∧ Q (.int (x.cps.getD 0 0 : Nat)) H) := by
  intro pins s σ H xs us Q I r h
  obtain ⟨x, rfl, hz, q⟩ := h
  obtain ⟨u, rfl, t, rfl⟩ := vals1 r
  exact ord_of_one hz ⟨.int _, H, I.tok _, ⟨_, rfl⟩, q⟩
/-- len of a str, a bytes, a list, a tuple -/
def LenV (K : PySem.W.Frag) (x : V) (H : Hp) (n : Nat) : Prop :=
  match x with
  | .str y => y.length ≤ sizeLine ∧ n = y.length
  | .byt y => y.size ≤ sizeLine ∧ n = y.size
  | .ref p => (∃ xs, SqL K H p xs ∧ n = xs.length) ∨ ∃ xs, SqT K H p xs ∧ n = xs.length
  | _ => False
end
end L2
namespace L2
open PySem PySem.Spec PyProof.Rows
/-! ### an instance, its attributes a map -/
structure ObjM (h : Heap) (x dx C : Addr) (mA : Str → Option Value) : Prop where
  obj : h.get? x = some (PySem.W.instObj C dx)
  ns : h.Ns1 dx mA
  ne : dx ≠ x
theorem lookIn_ns {h : Heap} {dx : Addr} {mA : Str → Option Value} (n : h.Ns1 dx mA) : ∃ od, h.get? dx = some od ∧ ∀ name, PySem.W.lookIn name od = some (mA name) := by
  obtain ⟨o, es, ep, ho, hd, hk, _, hm⟩ := n
  refine ⟨o, ho, fun name => ?_⟩
  have e := hm name
  unfold nsFind findBy at e
  rw [← Array.find?_toList] at e
  unfold PySem.W.lookIn
  rw [hd]
  dsimp only
  split
  · rename_i y q
    rw [q] at e
    exact congrArg some e
  · rename_i q
    rw [q] at e
    have a : es.toList.any (·.refKey) = false := by
      rw [List.any_eq_false]
      intro y hy
      obtain ⟨z, t, hkey⟩ := hk y (Array.mem_toList_iff.mp hy)
      simp [DictEntry.refKey, hkey]
    have a' : ¬ es.toList.any (·.refKey) = true := by rw [a]; exact Bool.false_ne_true
    rw [if_neg a']
    exact congrArg some e
theorem ObjM.look {h : Heap} {x dx C : Addr} {mA : Str → Option Value} (I : ObjM h x dx C mA) : ∃ od, PySem.W.InstAt h x (PySem.W.instObj C dx) C (some od) ∧ ∀ name, PySem.W.lookIn name od = some (mA name) :=
  let ⟨od, ho, hl⟩ := lookIn_ns I.ns
  ⟨od, ⟨I.obj, rfl, rfl, ho⟩, hl⟩
section
variable {prog : Program} {w : World} {A : Around} {E : Value → Shared → Prop} {s : Shared} {K : PySem.W.Frag} {x dx C f : Addr} {mA : Str → Option Value} {name : Str} {v : Value}
theorem get_map {expr : Bool} {Q : Value → Shared → Prop} (X : K.In s.heap) (I : ObjM s.heap x dx C mA) (hg : PySem.W.plainGet K C name = true) (hh : PySem.W.hasDictIn K C = true)
    (ha : PySem.W.findIn K (.ref C) name = some none) (hv : mA name = some v) (hv' : PySem.W.handedIn v = true) (h : Q v { s with toks := s.toks + 1 }) :
    wpAny (model prog w) A (getAttr (.ref x) name expr) Q E s := by
  obtain ⟨od, J, hl⟩ := I.look
  exact PySem.W.get_value X J (PySem.W.plainGet_of hg).1 (PySem.W.findObj_own hh ha rfl (by rw [hl, hv])) hv' h
theorem get_meth {pl : Sem Bool} {Q : Value × List Value → Shared → Prop} (X : K.In s.heap) (I : ObjM s.heap x dx C mA) (hg : PySem.W.plainGet K C name = true)
    (hf : PySem.W.findIn K (.ref C) name = some (some (.ref f))) (ht : PySem.W.isFn K (.ref f) = true) (hv : mA name = none) (h : Q (.ref f, [.ref x]) s) :
    wpAny (model prog w) A (getMethod (.ref x) name pl) Q E s := by
  obtain ⟨od, J, hl⟩ := I.look
  exact PySem.W.method_fn X J (PySem.W.plainGet_of hg).1 (PySem.W.plainGet_of hg).2 hf (beq_iff_eq.mp ht) (by show (PySem.W.lookIn name od).map (·.isSome) = some false; rw [hl, hv]; rfl) h
theorem set_map {ns : List Str} {Q : Unit → Shared → Prop} (X : K.In s.heap) (I : ObjM s.heap x dx C mA)
    (hs : PySem.W.findIn K (.ref C) "__setattr__" = some (some (.builtin "object.__setattr__"))) (hp : PySem.W.plainOver K C = true) (ht : PySem.W.takerIn K C name = some none) (hh : PySem.W.hasDictIn K C = true)
    (hw : PySem.Within mA ns) (hsz : ns.length ≤ sizeLine)
    (h : ∀ h', ObjM h' x dx C (fun y => if y = name then some v else mA y) → Heap.SameBut dx s.heap h' → Q () { s with heap := h', toks := s.toks + 2 }) :
    wpAny (model prog w) A (setAttr (.ref x) name v) Q E s := by
  obtain ⟨od, J, hl⟩ := I.look
  refine PySem.W.set_plain X J hs (PySem.W.osa_open (s := { s with toks := s.toks + 1 }) (r := none) X J hp ht fun b => ?_)
  obtain ⟨cd, hc, hd'⟩ := PySem.W.any_some hh
  have hx : s.heap.get? x = some ⟨.ref C, some dx, .plain, #[]⟩ := I.obj
  refine wpAny_bind (wpAny_pure (wpAny_bind (wpAny_bind (wpAny_loadPart hx (wpAny_bind (PySem.W.Looks.here (s := { s with toks := s.toks + 1 }) (PySem.W.looks_clsIn X hc) ?_))))))
  rw [hd']
  refine wpAny_pure (a := some dx) (wpAny_bind (wpAny_pure (wpAny_bind ?_)))
  refine wpAny_nsSet1 (s := { s with toks := s.toks + 1 }) I.ns fun h' hn2 hs2 => ?_
  obtain ⟨oD, esD, epD, hoD, hdD, hcD⟩ := hn2.count (PySem.Within.cons name v hw)
  refine wpAny_bind (wpAny_lookBehind hoD (by rw [hdD]; exact pastItsLine_dict (Nat.le_trans hcD (by rw [List.length_cons]; omega))) ?_)
  exact wpAny_pure (h _ ⟨(hs2.2 _ (Ne.symm I.ne)).trans I.obj, hn2, I.ne⟩ hs2)
/-- C(..): the dict at the heap's end, the instance behind it; then its __init__ -/
theorem make_map {R : Result → Shared → Prop} {vs : List Value} {kw : List (Str × Value)} (X : K.In s.heap) (hm : PySem.W.makesIn K C = true)
    (hi : PySem.W.findIn K (.ref C) "__init__" = some (some (.ref f))) (hf : PySem.W.typeIn K (.ref f) = some (.type "function"))
    (h : codeAny (model prog w) (A.under (.builtin "type.__call__" ⟨.ref C :: vs, kw⟩)) (.call (.ref f) ⟨.ref (s.heap.objs.size + 1) :: vs, kw⟩) (PySem.W.InitBack (s.heap.objs.size + 1) R)
      { s with heap := (s.heap.push PySem.W.emptyDict).push (PySem.W.instObj C s.heap.objs.size) }) :
    codeAny (model prog w) A (.call (.ref C) ⟨vs, kw⟩) R s := by
  obtain ⟨hh, g, d, t, os⟩ := s
  exact PySem.W.make_core (PySem.W.makes_of X hm) (PySem.W.looks_findIn X hi) (fun self => PySem.W.bind_fn X self hf) (.inl rfl) h
end
/-! ### the attributes as a list of pairs -/
def putF (f : Str) (v : V) : List (Str × V) → List (Str × V)
  | [] => [(f, v)]
  | (g, x) :: r => if g = f then (g, v) :: r else (g, x) :: putF f v r
theorem lookup_putF (f g : Str) (v : V) : ∀ fs : List (Str × V), (putF f v fs).lookup g = if g = f then some v else fs.lookup g
  | [] => by
    show List.lookup g [(f, v)] = _
    by_cases h : g = f
    · have hb : (g == f) = true := beq_iff_eq.mpr h
      simp only [List.lookup, hb, if_pos h]
    · have hb : (g == f) = false := beq_eq_false_iff_ne.mpr h
      simp only [List.lookup, hb, if_neg h]
  | (k, x) :: r => by
    have ih := lookup_putF f g v r
    rw [show putF f v ((k, x) :: r) = (if k = f then (k, v) :: r else (k, x) :: putF f v r) from rfl]
    by_cases hk : k = f
    · rw [if_pos hk]
      by_cases h : g = k
      · have hb : (g == k) = true := beq_iff_eq.mpr h
        simp only [List.lookup, hb, if_pos (h.trans hk)]
      · have hb : (g == k) = false := beq_eq_false_iff_ne.mpr h
        simp only [List.lookup, hb, if_neg (fun e : g = f => h (e.trans hk.symm))]
    · rw [if_neg hk]
      by_cases h : g = k
      · have hb : (g == k) = true := beq_iff_eq.mpr h
        simp only [List.lookup, hb, if_neg (fun e : g = f => hk (h.symm.trans e))]
      · have hb : (g == k) = false := beq_eq_false_iff_ne.mpr h
        simp only [List.lookup, hb]
        exact ih
theorem keys_putF (f : Str) (v : V) : ∀ fs : List (Str × V), f ∈ (putF f v fs).map (·.1) ∧ ∀ g, g ∈ fs.map (·.1) → g ∈ (putF f v fs).map (·.1)
  | [] => ⟨by simp [putF], fun g h => by simp at h⟩
  | (k, x) :: r => by
    obtain ⟨i1, i2⟩ := keys_putF f v r
    rw [show putF f v ((k, x) :: r) = (if k = f then (k, v) :: r else (k, x) :: putF f v r) from rfl]
    by_cases hk : k = f
    · rw [if_pos hk]
      subst hk
      exact ⟨by simp, fun g h => by simpa using h⟩
    · rw [if_neg hk]
      refine ⟨?_, fun g h => ?_⟩
      · rw [List.map_cons]
        exact List.mem_cons_of_mem _ i1
      · rw [List.map_cons] at h ⊢
        rcases List.mem_cons.mp h with e | e
        · exact List.mem_cons.mpr (.inl e)
        · exact List.mem_cons_of_mem _ (i2 g e)
theorem length_putF (f : Str) (v : V) : ∀ fs : List (Str × V), (putF f v fs).length ≤ fs.length + 1
  | [] => by simp [putF]
  | (k, x) :: r => by
    have ih := length_putF f v r
    rw [show putF f v ((k, x) :: r) = (if k = f then (k, v) :: r else (k, x) :: putF f v r) from rfl]
    by_cases hk : k = f
    · rw [if_pos hk, List.length_cons, List.length_cons]; omega
    · rw [if_neg hk, List.length_cons, List.length_cons]; omega
theorem RelO.some_of {v : V} {o : Option Value} (r : RelO (some v) o) : ∃ u, o = some u ∧ RelV v u := by
  cases o with
  | none => exact (show False from r).elim
  | some u => exact ⟨u, rfl, r⟩
theorem RelO.none_of {o : Option Value} (r : RelO none o) : o = none := by
  cases o with
  | none => rfl
  | some u => exact (show False from r).elim
theorem handed_of {v : V} {u : Value} (r : RelV v u) : PySem.W.handedIn u = true := by
  cases v with
  | non => cases (show u = Value.none from r); rfl
  | bl b => cases (show u = Value.bool b from r); rfl
  | int i => obtain ⟨t, e⟩ := (show ∃ t, u = Value.int i t from r); cases e; rfl
  | str x => obtain ⟨t, e⟩ := (show ∃ t, u = Value.str x t from r); cases e; rfl
  | byt b => obtain ⟨t, e⟩ := (show ∃ t, u = Value.bytes b t from r); cases e; rfl
  | flt b => obtain ⟨t, e⟩ := (show ∃ t, u = Value.float b t from r); cases e; rfl
  | ref a => cases (show u = Value.ref a from r); rfl
  | ty n => cases (show u = Value.type n from r); rfl
section
variable {P : Program} {w : World} {H H' : Hp} {h h' : Heap} {a C dx : Addr} {fs fs' : List (Str × V)}
theorem ins_get (hok : HOk P w H h) (e : H a = some (.ins C dx fs)) : ∃ mA, ObjM h a dx C mA ∧ (∀ f, RelO (fs.lookup f) (mA f)) ∧ PySem.Within mA (fs.map (·.1)) ∧ fs.length ≤ 1000 ∧ H dx = some (.own a) := by
  obtain ⟨d, z, ne, ob, mA, n, r, q⟩ := (show ObjOk P w H h a (.ins C dx fs) from hok a _ e)
  exact ⟨mA, ⟨ob, n, ne⟩, r, q, z, d⟩
end
/-! ### what of the text a class must have -/
structure Cls (K : PySem.W.Frag) (C : Addr) : Prop where
  pg : PySem.W.plainGet K C Str.empty = true
  hd : PySem.W.hasDictIn K C = true
  po : PySem.W.plainOver K C = true
  sa : PySem.W.findIn K (.ref C) "__setattr__" = some (some (.builtin "object.__setattr__"))
theorem Cls.get {K : PySem.W.Frag} {C : Addr} (c : Cls K C) (f : Str) : PySem.W.plainGet K C f = true := c.pg
/-- no class of it has the name -/
def NoAttr (K : PySem.W.Frag) (C : Addr) (f : Str) : Prop := PySem.W.findIn K (.ref C) f = some none
theorem NoAttr.taker {K : PySem.W.Frag} {C : Addr} {f : Str} (n : NoAttr K C f) : PySem.W.takerIn K C f = some none := by
  unfold PySem.W.takerIn
  rw [show PySem.W.findIn K (.ref C) f = some none from n]
  rfl
/-- a constant of the class -/
structure Con (K : PySem.W.Frag) (C : Addr) (f : Str) (v : V) (u : Value) : Prop where
  at_ : PySem.W.findIn K (.ref C) f = some (some u)
  rel : RelV v u
  get : PySem.W.specialIn K u "__get__" = some none
  cp : PySem.W.copiedNames.contains f = false
/-- a method: a plain def of the class or of one above it -/
structure Meth (K : PySem.W.Frag) (C : Addr) (m : Str) (f : Addr) : Prop where
  at_ : PySem.W.findIn K (.ref C) m = some (some (.ref f))
  fn : PySem.W.isFn K (.ref f) = true
  kp : PySem.W.keepIn K (.ref f) = true
section
variable {X : Cx} {pins : List (Addr × Obj)} {σ : St} {H : Hp} {s : Shared} {a C dx : Addr} {fs : List (Str × V)} {f : Str} {v : V} {A : Around} {E : Value → Shared → Prop}
theorem getattr_ok {b : Bool} {Q : Value → Shared → Prop} (I : Inv X pins σ H s) (e : H a = some (.ins C dx fs)) (c : Cls X.K C) (n : NoAttr X.K C f) (l : fs.lookup f = some v)
    (h : ∀ u s', Inv X pins σ H s' → RelV v u → Q u s') : wpAny (model X.prog X.w) A (getAttr (.ref a) f b) Q E s := by
  obtain ⟨mA, O, r, _, _, _⟩ := ins_get I.hok e
  obtain ⟨u, hu, ru⟩ := RelO.some_of (v := v) (o := mA f) (by rw [← l]; exact r f)
  exact get_map I.kIn O (c.get f) c.hd n hu (handed_of ru) (h u _ (I.tok _) ru)
theorem getmeth_ok {m : Str} {g : Addr} {pl : Sem Bool} {Q : Value × List Value → Shared → Prop} (I : Inv X pins σ H s) (e : H a = some (.ins C dx fs)) (c : Cls X.K C) (k : Meth X.K C m g) (l : fs.lookup m = none)
    (h : Q (.ref g, [.ref a]) s) : wpAny (model X.prog X.w) A (getMethod (.ref a) m pl) Q E s := by
  obtain ⟨mA, O, r, _, _, _⟩ := ins_get I.hok e
  have hn : mA m = none := RelO.none_of (by rw [← l]; exact r m)
  exact get_meth I.kIn O (c.get m) k.at_ k.fn hn h
theorem setattr_ok {y : V} {u : Value} {Q : Unit → Shared → Prop} (I : Inv X pins σ H s) (e : H a = some (.ins C dx fs)) (c : Cls X.K C) (n : NoAttr X.K C f) (hl : fs.length < 1000) (ry : RelV y u)
    (h : ∀ s', Inv X pins σ (upd H a (.ins C dx (putF f y fs))) s' → Q () s') : wpAny (model X.prog X.w) A (setAttr (.ref a) f u) Q E s := by
  obtain ⟨mA, O, r, wi, _, ho⟩ := ins_get I.hok e
  have hz : (fs.map (·.1)).length ≤ sizeLine := by rw [List.length_map, sizeLine_eq]; omega
  refine set_map I.kIn O c.sa c.po n.taker c.hd wi hz fun h' O' sb => h _ ?_
  have hd : ∃ o, h'.get? dx = some o := let ⟨o, _, _, e', _⟩ := O'.ns; ⟨o, e'⟩
  refine I.write (x := a) (e := dx) (by rw [e]; exact True.intro) (.inr ho) (fun b q hb z => (sb.2 b hb).trans z) hd ?_
  refine ⟨by rw [upd_ne O.ne]; exact ho, ?_, O.ne, O'.obj, _, O'.ns, fun g => ?_, fun g hg => ?_⟩
  · have := length_putF f y fs; omega
  · show RelO ((putF f y fs).lookup g) (if g = f then some u else mA g)
    rw [lookup_putF]
    by_cases q : g = f
    · rw [if_pos q, if_pos q]; exact ry
    · rw [if_neg q, if_neg q]; exact r g
  · by_cases q : g = f
    · rw [q]; exact (keys_putF f y fs).1
    · refine (keys_putF f y fs).2 g (wi g fun z => hg ?_)
      show (if g = f then some u else mA g) = none
      rw [if_neg q]; exact z
/-- a new instance, tracked, without attributes -/
theorem Inv.made (I : Inv X pins σ H s) : Inv X pins σ (upd (upd H s.heap.objs.size (.own (s.heap.objs.size + 1))) (s.heap.objs.size + 1) (.ins C s.heap.objs.size []))
    { s with heap := (s.heap.push PySem.W.emptyDict).push (PySem.W.instObj C s.heap.objs.size) } := by
  have e1 : (s.heap.push PySem.W.emptyDict).get? s.heap.objs.size = some PySem.W.emptyDict := Heap.get?_push_size s.heap rfl
  have e2 : ((s.heap.push PySem.W.emptyDict).push (PySem.W.instObj C s.heap.objs.size)).get? (s.heap.objs.size + 1) = some (PySem.W.instObj C s.heap.objs.size) := by
    have := Heap.get?_push_size (s.heap.push PySem.W.emptyDict) (o := PySem.W.instObj C s.heap.objs.size) rfl
    rwa [Heap.size_push] at this
  have e3 : (s.heap.push PySem.W.emptyDict).Ns s.heap.objs.size (fun _ => none) := ⟨PySem.W.emptyDict, #[], _, e1, rfl, (fun e he => absurd he (by simp)), fun _ => rfl⟩
  have I1 := I.laid (a := s.heap.objs.size) (o := .own (s.heap.objs.size + 1)) (h' := s.heap.push PySem.W.emptyDict) (t' := s.toks) (fun b u q => Heap.get?_push_of_some _ q) (Nat.le_refl _) ⟨_, e1⟩
  refine I1.laid (a := s.heap.objs.size + 1) (o := .ins C s.heap.objs.size []) (t' := s.toks) (fun b u q => Heap.get?_push_of_some _ q) (Nat.le_of_eq (Heap.size_push _ _)) ?_
  have ne : s.heap.objs.size ≠ s.heap.objs.size + 1 := Nat.ne_of_lt (Nat.lt_succ_self _)
  refine ⟨by rw [upd_ne ne, upd_same], Nat.zero_le _, ne, e2, fun _ => none, (Heap.Ns1.of_empty e3).at fun o q => Heap.get?_push_of_some _ q, fun _ => True.intro, fun y hy => absurd rfl hy⟩
/-- e.f where nothing but the object is asked: through attributeBase (super) and the last hold -/
theorem attr_of {prog : Program} {w : World} {env : Env} {e : Expr} {f : Str} {pos : Pos} {s : Shared} {Q : Value → Shared → Prop} (hb : attributeBase e f env (eval e env) = eval e env)
    (h : wpAny (model prog w) A (eval e env) (fun o s₁ => wpAny (model prog w) A (getAttr o f true) Q E s₁) E s) : wpAny (model prog w) A (eval (.Attribute e f pos) env) Q E s :=
  Attribute_any_ h (by rw [arm_eval_Attribute, hb])
end
/-! ### readings and rules -/
/-- e.f, an attribute of the instance -/
def tFld (K : PySem.W.Frag) (ta : TE) (f : Str) : TE := fun σ H Q => ta σ H fun x H1 => ∃ a C dx fs v, x = .ref a ∧ H1 a = some (.ins C dx fs) ∧ Cls K C ∧ NoAttr K C f ∧ fs.lookup f = some v ∧ Q v H1
/-- e.f, a constant of the class -/
def tCon (K : PySem.W.Frag) (ta : TE) (f : Str) : TE := fun σ H Q => ta σ H fun x H1 => ∃ a C dx fs v u, x = .ref a ∧ H1 a = some (.ins C dx fs) ∧ Cls K C ∧ Con K C f v u ∧ fs.lookup f = none ∧ Q v H1
/-- e.f = value -/
def sFld (K : PySem.W.Frag) (ta tv : TE) (f : Str) : TS := fun D σ H => tv σ H fun y H1 => ta σ H1 fun x H2 => ∃ a C dx fs, x = .ref a ∧ H2 a = some (.ins C dx fs) ∧ Cls K C ∧ NoAttr K C f ∧ fs.length < 1000 ∧
  D.nx σ (upd H2 a (.ins C dx (putF f y fs)))
/-- an augmented operator on two values -/
def InOp (X : Cx) (op : Operator) (rd : V → V → Hp → VK → Prop) : Prop :=
  ∀ (pins : List (Addr × Obj)) (s : Shared) (σ : St) (H : Hp) (x y : V) (u v : Value) (Q : VK), Inv X pins σ H s → RelV x u → RelV y v → rd x y H Q → wpAny (model X.prog X.w) X.A (inplaceOp op u v) (EP X pins σ Q) X.xe s
/-- e.f op= value -/
def sFldAug (K : PySem.W.Frag) (ta tv : TE) (rd : V → V → Hp → VK → Prop) (f : Str) : TS := fun D σ H => ta σ H fun x H1 => ∃ a C dx fs v, x = .ref a ∧ H1 a = some (.ins C dx fs) ∧ Cls K C ∧ NoAttr K C f ∧ fs.lookup f = some v ∧
  tv σ H1 fun y H2 => rd v y H2 fun z H3 => ∃ dx' fs', H3 a = some (.ins C dx' fs') ∧ fs'.length < 1000 ∧ D.nx σ (upd H3 a (.ins C dx' (putF f z fs')))
section
variable {X : Cx} {o e value : Expr} {f : Str} {pos pos' tpos : Pos} {ta tv : TE}
theorem pe_fld (he : PE X e ta) (hb : attributeBase e f X.env (eval e X.env) = eval e X.env) : PE X (.Attribute e f pos) (tFld X.K ta f) := by
  intro pins s σ H Q I h
  refine attr_of hb (thn (he pins s σ H _ I h) fun u s1 ⟨x, H1, I1, rx, a, C, dx, fs, v, ex, ea, c, n, l, q⟩ => ?_)
  subst ex
  obtain rfl : u = Value.ref a := rx
  exact getattr_ok I1 ea c n l fun u' s2 I2 ru => ⟨v, H1, I2, ru, q⟩
theorem ps_fld (ha : PE X o ta) (hv : PE X value tv) (hs : swapsWith value (some (.Attribute o f pos')) pos.line X.env = pure false) : PS X (.Assign [.Attribute o f pos'] value pos) (sFld X.K ta tv f) := by
  intro pins s σ H D I h
  refine plainObj_wpAny_Assign_Attribute (thn (hv pins s σ H _ I h) fun u s1 ⟨y, H1, I1, ry, q⟩ => thn (ha pins s1 σ H1 _ I1 q) fun ov s2 ⟨x, H2, I2, rx, a, C, dx, fs, ex, ea, c, n, l, q2⟩ => ?_) hs
  subst ex
  obtain rfl : ov = Value.ref a := rx
  exact setattr_ok I2 ea c n l ry fun s3 I3 => ⟨σ, _, I3, q2⟩
def rAdd : V → V → Hp → VK → Prop := fun x y H Q => ∃ i j, x = .int i ∧ y = .int j ∧ Q (.int (i + j)) H
def rSub : V → V → Hp → VK → Prop := fun x y H Q => ∃ i j, x = .int i ∧ y = .int j ∧ Q (.int (i - j)) H
end
/-! ### isinstance -/
section
variable {X : Cx} {pins : List (Addr × Obj)} {σ : St} {H : Hp} {s : Shared} {A : Around} {E : Value → Shared → Prop} {Q : Value → Shared → Prop} {c : Value} {b : Bool}
/-- the type of a value, as the fragment's deciders take it; for an instance its class -/
inductive TyOf (K : PySem.W.Frag) (H : Hp) : V → Value → Prop where
  | non : TyOf K H .non (.type "NoneType")
  | bl (x : Bool) : TyOf K H (.bl x) (.type "bool")
  | int (i : Int) : TyOf K H (.int i) (.type "int")
  | str (x : Str) : TyOf K H (.str x) (.type "str")
  | flt (x : UInt64) : TyOf K H (.flt x) (.type "float")
  | lst {a : Addr} {xs : List V} (e : H a = some (.lst xs)) : TyOf K H (.ref a) (.type "list")
  | frz {a : Addr} {o : Obj} {xs : List V} (e : H a = some (.frz o (.lst xs))) : TyOf K H (.ref a) (.type "list")
  | tup {a : Addr} {xs : List V} (e : H a = some (.tup xs)) : TyOf K H (.ref a) (.type "tuple")
  | dK {a : Addr} {kvs : List (Key × V)} (e : H a = some (.dK kvs)) : TyOf K H (.ref a) (.type "dict")
  | dT {a : Addr} {kvs : List (List Key × V)} (e : H a = some (.dT kvs)) : TyOf K H (.ref a) (.type "dict")
  | ins {a C dx : Addr} {fs : List (Str × V)} (e : H a = some (.ins C dx fs)) (cl : Cls K C) (ha : PySem.W.findIn K (.ref C) "__class__" = some (some (.builtin "object.__class__")))
      (hn : PySem.W.specialIn K (.builtin "object.__class__") "__get__" = some (some (.builtin "getset_descriptor.__get__"))) (htk : PySem.W.takesIn K (.builtin "object.__class__") = some true)
      (hm : PySem.W.mroIn K C (.type "object") = some true) : TyOf K H (.ref a) (.ref C)
end
end L2
namespace L2
open PySem PySem.Spec PyProof.Rows
/-! ### room -/
structure Room (k : Nat) (A : Around) : Prop where
  hd : A.handled = none
  dp : A.depth + 3 * k + 5 < recursionLimit
  un : A.units + 16 * k + 200 < cLine
theorem Room.mono {j k : Nat} {A : Around} (r : Room k A) (h : j ≤ k) : Room j A := ⟨r.hd, by have := r.dp; omega, by have := r.un; omega⟩
theorem Room.deeper {k : Nat} {A : Around} (r : Room (k + 1) A) (env : Env) : Room k (A.deeper env) :=
  ⟨r.hd, by have := r.dp; show A.depth + 1 + 3 * k + 5 < _; omega, by have := r.un; show A.units + 3 + 16 * k + 200 < _; omega⟩
theorem make_depth {A : Around} {C : Addr} {us : List Value} {kw : List (Str × Value)} : (A.under (.builtin "type.__call__" ⟨.ref C :: us, kw⟩)).depth = A.depth + 1 := by
  first | rfl | simp [Around.under, Code.weight, Code.isCreation, Code.isGuard, Code.isCaller, Code.frames, Code.isFrame, guardIds]
theorem make_units {A : Around} {C : Addr} {us : List Value} {kw : List (Str × Value)} : (A.under (.builtin "type.__call__" ⟨.ref C :: us, kw⟩)).units = A.units + 1 := by
  first | rfl | simp [Around.under, Code.cUnits, Code.frames, Code.isFrame]
theorem Room.make {k : Nat} {A : Around} (r : Room (k + 1) A) (C : Addr) (us : List Value) (kw : List (Str × Value)) : Room k (A.under (.builtin "type.__call__" ⟨.ref C :: us, kw⟩)) :=
  ⟨r.hd, by have := r.dp; rw [make_depth]; omega, by have := r.un; rw [make_units]; omega⟩
theorem Room.depth {k : Nat} {A : Around} (r : Room k A) : A.depth < recursionLimit := by have := r.dp; omega
/-! ### argument lists and displays -/
def tNil : TA := fun _ H Q => Q [] H
def tCons (ta : TE) (tr : TA) : TA := fun σ H Q => ta σ H fun x H1 => tr σ H1 fun xs H2 => Q (x :: xs) H2
section
variable {X : Cx} {e : Expr} {es : List Expr} {te : TE} {t : TA} {pos : Pos}
theorem pa_nil : PA X [] tNil := fun _ _ _ _ H Q I h => Calls.spliced_nil ⟨[], H, I, .nil, h⟩
theorem pa_cons (ha : PE X e te) (hr : PA X es t) (hs : starEach (e :: es) X.env = (false, eval e X.env) :: starEach es X.env := by rfl) : PA X (e :: es) (tCons te t) := by
  intro pos pins s σ H Q I h
  rw [hs]
  show wpAny _ _ (spliced ((false, eval e X.env) :: backTo pos (starEach es X.env))) _ _ s
  refine Calls.spliced_cons (thn (ha pins s σ H _ I h) fun u s1 ⟨x, H1, I1, r1, q1⟩ => ?_)
  exact thn (hr pos pins s1 σ H1 _ I1 q1) fun us s2 ⟨xs, H2, I2, r2, q2⟩ => ⟨x :: xs, H2, I2, .cons r1 r2, q2⟩
/-- a tuple, a list of written items -/
def tTup (t : TA) : TE := fun σ H Q => t σ H fun xs H1 => xs.length ≤ sizeLine ∧ ∀ p, H1 p = none → Q (.ref p) (upd H1 p (.tup xs))
def tLst (t : TA) : TE := fun σ H Q => t σ H fun xs H1 => xs.length ≤ sizeLine ∧ ∀ p, H1 p = none → Q (.ref p) (upd H1 p (.lst xs))
theorem pe_tup {x1} (h : PA X es t) : PE X (.Tuple es x1 pos) (tTup t) := by
  intro pins s σ H Q I hq
  refine wpAny_Tuple_spliced (thn (h pos pins s σ H _ I hq) fun us s1 ⟨xs, H1, I1, r, z, q⟩ => ⟨by rw [← r.length]; exact z, ?_⟩)
  have hf : H1 s1.heap.objs.size = none := I1.hok.fresh (Nat.le_refl _)
  refine ⟨.ref s1.heap.objs.size, upd H1 s1.heap.objs.size (.tup xs), I1.laid (t' := s1.toks) (fun b u e => Heap.get?_push_of_some _ e) (Nat.le_refl _) ?_, rfl, q _ hf⟩
  exact ⟨z, us, r, ⟨_, Heap.get?_push_size _ rfl, rfl, _, rfl⟩⟩
theorem pe_lst (h : PA X es t) : PE X (.List es pos) (tLst t) := by
  intro pins s σ H Q I hq
  refine wpAny_List_spliced (thn (h pos pins s σ H _ I hq) fun us s1 ⟨xs, H1, I1, r, z, q⟩ => ⟨by rw [← r.length]; exact z, ?_⟩)
  have hf : H1 s1.heap.objs.size = none := I1.hok.fresh (Nat.le_refl _)
  refine ⟨.ref s1.heap.objs.size, upd H1 s1.heap.objs.size (.lst xs), I1.laid (t' := s1.toks) (fun b u e => Heap.get?_push_of_some _ e) (Nat.le_refl _) ?_, rfl, q _ hf⟩
  exact ⟨z, us, 0, r, Heap.get?_push_size _ rfl⟩
end
/-! ### what a def promises -/
/-- a def's promise: the bound arguments in the parameters' order, the heap, the wanted end, the wanted exception -/
abbrev Sp := List V → Hp → VK → XK → Prop
/-- how an exception lies behind a call (file 08 gives it): the callers' frames, abstract heap and state ahead of the call, the wish, the exception, the state -/
abbrev CXT := List Env → Hp → Shared → XK → Value → Shared → Prop
/-- the state at a call -/
structure Env0 (P : Program) (w : World) (K : PySem.W.Frag) (mg : Str → Option Value) (base : Heap) (A : Around) (outer : List Env) (s : Shared) (H : Hp) : Prop where
  frames : A.frames = some outer
  mod : Mod K mg base
  bs : ∀ b o, base.get? b = some o → s.heap.get? b = some o ∧ H b = none
  bsz : base.objs.size ≤ s.heap.objs.size
  funs : s.heap.FunFrames base outer
  frf : ∀ b ∈ frs outer, H b = none
  hok : HOk P w H s.heap
  bare : AllBare s.gens
/-- a call's end -/
def CE (outer : List Env) (P : Program) (w : World) (H : Hp) (s : Shared) (Q : VK) (u : Value) (s' : Shared) : Prop :=
  ∃ v H', s'.os = s.os ∧ AllBare s'.gens ∧ Un (frs outer) [] H H' s.heap s'.heap ∧ HOk P w H' s'.heap ∧ RelV v u ∧ Q v H'
def CR (CX : CXT) (outer : List Env) (P : Program) (w : World) (H : Hp) (s : Shared) (Q : VK) (E : XK) (r : Result) (s' : Shared) : Prop :=
  match r with
  | .ok (.ret u) => CE outer P w H s Q u s'
  | .ok _ => False
  | .error e => CX outer H s E e s'
structure FnOk (P : Program) (w : World) (K : PySem.W.Frag) (mg : Str → Option Value) (base : Heap) (CX : CXT) (k : Nat) (f : Addr) (fd : FuncData) (ps : List Str) (sp : Sp) : Prop where
  len : ∀ vs H Q E, sp vs H Q E → vs.length = ps.length
  run : ∀ (A : Around) (outer : List Env) (s : Shared) (H : Hp) (args : Args) (us : List Value) (vs : List V) (Q : VK) (E : XK), Room k A → Env0 P w K mg base A outer s H → BindsTo s fd args (ps.zip us) → Vals vs us → sp vs H Q E →
    codeAny (model P w) A (.call (.ref f) args) (CR CX outer P w H s Q E) s
theorem Env0.make {P : Program} {w : World} {K : PySem.W.Frag} {mg : Str → Option Value} {base : Heap} {A : Around} {outer : List Env} {s : Shared} {H : Hp} (e : Env0 P w K mg base A outer s H) (C : Addr) (us : List Value) (kw : List (Str × Value)) :
    Env0 P w K mg base (A.under (.builtin "type.__call__" ⟨.ref C :: us, kw⟩)) outer s H := ⟨by first | exact e.frames | (simpa [Around.under, Code.envs, Code.isFrame, pushEnvs] using e.frames), e.mod, e.bs, e.bsz, e.funs, e.frf, e.hok, e.bare⟩
section
variable {X : Cx} {pins : List (Addr × Obj)} {σ : St} {H : Hp} {s s' : Shared}
/-- from a body: what a callee wants -/
theorem Inv.env0 (I : Inv X pins σ H s) : Env0 X.prog X.w X.K X.mg X.base X.A X.stack s H :=
  ⟨I.ok.frames, I.ok.mod, I.bs, Nat.le_trans I.ok.bsz I.sz, I.stack, I.stkFree, I.hok, I.bare⟩
/-- behind a call -/
theorem Inv.after {Q : VK} {u : Value} (I : Inv X pins σ H s) (h : CE X.stack X.prog X.w H s Q u s') : EP X pins σ Q u s' := by
  obtain ⟨v, H', os, bare, un, hok, r, q⟩ := h
  obtain ⟨hh, g, d, t, os'⟩ := s'
  obtain rfl : os' = s.os := os
  exact ⟨v, H', I.call (h' := hh) (g' := g) (d' := d) (t' := t) (ch := []) un hok bare (fun b z => absurd z (by simp)), r, q⟩
end
/-! ### calls -/
/-- f(..): the written arguments, then the defaults dvs; E: what is wanted of an exception -/
def tCall (sp : Sp) (dvs : List V) (E : XK) (t : TA) : TE := fun σ H Q => t σ H fun vs H1 => sp (vs ++ dvs) H1 Q E
/-- o.m(..) of an instance of the class at C -/
def tMeth (C : Addr) (m : Str) (sp : Sp) (dvs : List V) (E : XK) (ta : TE) (t : TA) : TE := fun σ H Q => ta σ H fun x H1 => ∃ a dx fs, x = .ref a ∧ H1 a = some (.ins C dx fs) ∧ fs.lookup m = none ∧
  t σ H1 fun vs H2 => sp (x :: (vs ++ dvs)) H2 Q E
/-- C(..): a new instance and its dict, then __init__ -/
def tMake (C : Addr) (sp : Sp) (dvs : List V) (E : XK) (t : TA) : TE := fun σ H Q => t σ H fun vs H1 => ∀ x dx, H1 x = none → H1 dx = none → dx ≠ x →
  sp (.ref x :: (vs ++ dvs)) (upd (upd H1 dx (.own x)) x (.ins C dx [])) (fun v H2 => v = .non ∧ Q (.ref x) H2) E
/-- how the parameters are bound: us the positional arguments, kw the keywords' values by name, ds the defaults that fill up -/
def Binds (K : PySem.W.Frag) (fd : FuncData) (ps : List Str) (ds : List Value) : Prop :=
  ∀ (s : Shared) (us : List Value), K.In s.heap → (us ++ ds).length = ps.length → BindsTo s fd ⟨us, []⟩ (ps.zip (us ++ ds))
/-- every parameter is given -/
theorem Binds.all {K : PySem.W.Frag} {fd : FuncData} {ps : List Str} (h : ∀ us : List Value, us.length = ps.length → bindArgs fd ⟨us, []⟩ = pure (ps.zip us)) : Binds K fd ps [] := fun s us _ hl => by
  rw [List.append_nil] at hl ⊢
  exact .of_eq (h us hl)
/-- an exception of a callee reaches what this body wants of exceptions -/
def Passes (CX : CXT) (X : Cx) (E : XK) : Prop := ∀ (pins : List (Addr × Obj)) (σ : St) (H : Hp) (s : Shared) (e : Value) (s' : Shared), Inv X pins σ H s → CX X.stack H s E e s' → X.xe e s'
section
variable {X : Cx} {CX : CXT} {k : Nat} {f C : Addr} {fd : FuncData} {ps : List Str} {sp : Sp} {dvs : List V} {ds : List Value} {E : XK} {x m : Str} {p pos apos : Pos} {e o : Expr} {es : List Expr} {ta : TE} {t : TA}
/-- the callee runs -/
theorem run_fn {pins : List (Addr × Obj)} {σ : St} {H : Hp} {s : Shared} {Q : VK} {us : List Value} {vs : List V} (F : FnOk X.prog X.w X.K X.mg X.base CX k f fd ps sp) (hr : Room k X.A) (hb : Binds X.K fd ps ds) (hd : Vals dvs ds) (hx : Passes CX X E)
    (I : Inv X pins σ H s) (r : Vals vs us) (h : sp (vs ++ dvs) H Q E) : wpAny (model X.prog X.w) X.A (call (.ref f) us) (EP X pins σ Q) X.xe s := by
  have r2 : Vals (vs ++ dvs) (us ++ ds) := r.append hd
  have hl : (us ++ ds).length = ps.length := by rw [← r2.length]; exact F.len _ _ _ _ h
  refine wpAny_call (codeAny_mono (F.run X.A X.stack s H ⟨us, []⟩ (us ++ ds) (vs ++ dvs) Q E hr I.env0 (hb s us I.kIn hl) r2 h) fun r s' hq => ?_)
  cases r with
  | error e => exact hx pins σ H s e s' I hq
  | ok fl =>
    cases fl with
    | ret u => exact I.after hq
    | next => exact False.elim hq
    | brk => exact False.elim hq
    | cont => exact False.elim hq
theorem pe_call (F : FnOk X.prog X.w X.K X.mg X.base CX k f fd ps sp) (hr : Room k X.A) (hg : Gl X x) (hm : X.mg x = some (.ref f)) (hk : PySem.W.keepIn X.K (.ref f) = true) (hb : Binds X.K fd ps ds) (hd : Vals dvs ds) (hx : Passes CX X E)
    (ha : PA X (e :: es) t) (hdb : (x == ("__debug__" : Str)) = false := by decide) (he : starEach (e :: es) X.env = (false, eval e X.env) :: starEach es X.env := by rfl) (hpl : (backTo pos (starEach es X.env)).any (·.1) = false := by rfl) :
    PE X (.Call (.Name x p) (e :: es) [] pos) (tCall sp dvs E t) := by
  intro pins s σ H Q I h
  refine wpAny_Call_Name_kw (ld_glob I hg hm ?_ hdb)
  refine PySem.W.callWith_K (h₀ := X.base) I.ok.mod.kin hk (thn (ha pos pins s σ H _ I h) fun us s1 ⟨vs, H1, I1, r, q⟩ => ⟨I1.kIn, ?_⟩) he hpl
  exact run_fn F hr hb hd hx I1 r q
/-- o.m(e, ..) -/
theorem pe_meth {pl : Sem Bool} (he : PE X o ta) (c : Cls X.K C) (hm : Meth X.K C m f) (F : FnOk X.prog X.w X.K X.mg X.base CX k f fd ps sp) (hr : Room k X.A) (hb : Binds X.K fd ps ds) (hd : Vals dvs ds) (hx : Passes CX X E) (ha : PA X (e :: es) t)
    (hst : starEach (e :: es) X.env = (false, eval e X.env) :: starEach es X.env := by rfl) (hpl : (backTo pos (starEach es X.env)).any (·.1) = false := by rfl)
    (ht : eval (.Call (.Attribute o m apos) (e :: es) [] pos) X.env = (do
      let ov ← eval o X.env
      standAt apos.atName
      let (f, first) ← holding [ov] (getMethod ov m pl)
      callWith pos f first (backTo pos (starEach (e :: es) X.env)) (backToKw pos (keywordEach [] X.env))) := by rfl) :
    PE X (.Call (.Attribute o m apos) (e :: es) [] pos) (tMeth C m sp dvs E ta t) := by
  intro pins s σ H Q I h
  refine PySem.W.methodCall_KW (pl := pl) (thn (he pins s σ H _ I h) fun u s1 ⟨x, H1, I1, rx, a, dx, fs, ex, ea, l, q⟩ => ?_) ht
  subst ex
  obtain rfl : u = Value.ref a := rx
  refine getmeth_ok I1 ea c hm l ?_
  refine PySem.W.callWith_K (first := [.ref a]) (h₀ := X.base) I.ok.mod.kin hm.kp (thn (ha pos pins s1 σ H1 _ I1 q) fun us s2 ⟨vs, H2, I2, r, q2⟩ => ⟨I2.kIn, ?_⟩) hst hpl
  exact run_fn (us := .ref a :: us) (vs := .ref a :: vs) F hr hb hd hx I2 (.cons rfl r) q2
/-- o.m() -/
theorem pe_meth0 {pl : Sem Bool} (he : PE X o ta) (c : Cls X.K C) (hm : Meth X.K C m f) (F : FnOk X.prog X.w X.K X.mg X.base CX k f fd ps sp) (hr : Room k X.A) (hb : Binds X.K fd ps ds) (hd : Vals dvs ds) (hx : Passes CX X E)
    (ht : eval (.Call (.Attribute o m apos) [] [] pos) X.env = (do
      let ov ← eval o X.env
      standAt apos.atName
      let (f, first) ← holding [ov] (getMethod ov m pl)
      callWith pos f first (backTo pos (starEach [] X.env)) (backToKw pos (keywordEach [] X.env))) := by rfl) :
    PE X (.Call (.Attribute o m apos) [] [] pos) (tMeth C m sp dvs E ta tNil) := by
  intro pins s σ H Q I h
  refine PySem.W.methodCall_KW (pl := pl) (thn (he pins s σ H _ I h) fun u s1 ⟨x, H1, I1, rx, a, dx, fs, ex, ea, l, q⟩ => ?_) ht
  subst ex
  obtain rfl : u = Value.ref a := rx
  refine getmeth_ok I1 ea c hm l ?_
  exact PySem.W.callWith_K0 (first := [.ref a]) I1.kIn hm.kp (run_fn (us := [.ref a]) (vs := [.ref a]) F hr hb hd hx I1 (.cons rfl .nil) q)
/-- what a class must have to be made -/
structure Mk (K : PySem.W.Frag) (C f : Addr) : Prop where
  makes : PySem.W.makesIn K C = true
  init : PySem.W.findIn K (.ref C) "__init__" = some (some (.ref f))
  fn : PySem.W.isFn K (.ref f) = true
  kp : PySem.W.keepIn K (.ref C) = true
theorem run_make {pins : List (Addr × Obj)} {σ : St} {H : Hp} {s : Shared} {Q : VK} {us : List Value} {vs : List V} (M : Mk X.K C f) (F : FnOk X.prog X.w X.K X.mg X.base CX k f fd ps sp) (hr : Room (k + 1) X.A) (hb : Binds X.K fd ps ds) (hd : Vals dvs ds)
    (hx : Passes CX X E) (I : Inv X pins σ H s) (r : Vals vs us)
    (h : ∀ x dx, H x = none → H dx = none → dx ≠ x → sp (.ref x :: (vs ++ dvs)) (upd (upd H dx (.own x)) x (.ins C dx [])) (fun v H2 => v = .non ∧ Q (.ref x) H2) E) :
    wpAny (model X.prog X.w) X.A (call (.ref C) us) (EP X pins σ Q) X.xe s := by
  have hq := h (s.heap.objs.size + 1) s.heap.objs.size (I.hok.fresh (Nat.le_succ _)) (I.hok.fresh (Nat.le_refl _)) (Nat.ne_of_lt (Nat.lt_succ_self _))
  have I2 := Inv.made (C := C) I
  have r2 : Vals (V.ref (s.heap.objs.size + 1) :: (vs ++ dvs)) (Value.ref (s.heap.objs.size + 1) :: (us ++ ds)) := .cons rfl (r.append hd)
  have hl : (Value.ref (s.heap.objs.size + 1) :: us ++ ds).length = ps.length := by
    have e := r2.length
    rw [F.len _ _ _ _ hq] at e
    exact e.symm
  refine wpAny_call (make_map (f := f) I.kIn M.makes M.init (beq_iff_eq.mp M.fn) (codeAny_mono (F.run _ X.stack _ _ ⟨Value.ref (s.heap.objs.size + 1) :: us, []⟩ (Value.ref (s.heap.objs.size + 1) :: (us ++ ds)) _ _ E (hr.make C us [])
    (I2.env0.make C us []) (hb _ (Value.ref (s.heap.objs.size + 1) :: us) I2.kIn hl) r2 hq) fun r s' hq' => ?_))
  cases r with
  | error e => exact hx pins σ _ _ e s' I2 hq'
  | ok fl =>
    cases fl with
    | ret u =>
      obtain ⟨v, H', I3, rv, ev, q3⟩ := I2.after hq'
      subst ev
      exact ⟨rv, ⟨V.ref (s.heap.objs.size + 1), H', I3, rfl, q3⟩⟩
    | next => exact False.elim hq'
    | brk => exact False.elim hq'
    | cont => exact False.elim hq'
theorem pe_make (M : Mk X.K C f) (F : FnOk X.prog X.w X.K X.mg X.base CX k f fd ps sp) (hr : Room (k + 1) X.A) (hg : Gl X x) (hm : X.mg x = some (.ref C)) (hb : Binds X.K fd ps ds) (hd : Vals dvs ds) (hx : Passes CX X E)
    (ha : PA X (e :: es) t) (hdb : (x == ("__debug__" : Str)) = false := by decide) (he : starEach (e :: es) X.env = (false, eval e X.env) :: starEach es X.env := by rfl) (hpl : (backTo pos (starEach es X.env)).any (·.1) = false := by rfl) :
    PE X (.Call (.Name x p) (e :: es) [] pos) (tMake C sp dvs E t) := by
  intro pins s σ H Q I h
  refine wpAny_Call_Name_kw (ld_glob I hg hm ?_ hdb)
  refine PySem.W.callWith_K (h₀ := X.base) I.ok.mod.kin M.kp (thn (ha pos pins s σ H _ I h) fun us s1 ⟨vs, H1, I1, r, q⟩ => ⟨I1.kIn, ?_⟩) he hpl
  exact run_make M F hr hb hd hx I1 r q
theorem pe_make0 (M : Mk X.K C f) (F : FnOk X.prog X.w X.K X.mg X.base CX k f fd ps sp) (hr : Room (k + 1) X.A) (hg : Gl X x) (hm : X.mg x = some (.ref C)) (hb : Binds X.K fd ps ds) (hd : Vals dvs ds) (hx : Passes CX X E)
    (hdb : (x == ("__debug__" : Str)) = false := by decide) : PE X (.Call (.Name x p) [] [] pos) (tMake C sp dvs E tNil) := by
  intro pins s σ H Q I h
  refine wpAny_Call_Name_kw (ld_glob I hg hm ?_ hdb)
  exact PySem.W.callWith_K0 I.kIn M.kp (run_make (us := []) M F hr hb hd hx I .nil h)
end
/-! ### keywords -/
/-- the values of the keywords, from the left -/
def PK (X : Cx) (kws : List Keyword) (t : TA) : Prop :=
  ∀ (pos : Pos) (pins : List (Addr × Obj)) (s : Shared) (σ : St) (H : Hp) (Q : List V → Hp → Prop), Inv X pins σ H s → t σ H Q → wpAny (model X.prog X.w) X.A (evalAll ((backToKw pos (keywordEach kws X.env)).map (·.2))) (AP X pins σ Q) X.xe s
section
variable {X : Cx} {CX : CXT} {k : Nat} {f C : Addr} {fd : FuncData} {ps ks : List Str} {sp : Sp} {E : XK} {x m : Str} {p pos apos kpos : Pos} {e o : Expr} {es : List Expr} {kws : List Keyword} {te ta : TE} {t tk : TA} {nm : Option Str}
/-- how a call with keywords binds: g puts the positional values us and the keywords' values ws (names ks) in the parameters' order, defaults among them -/
structure KBinds (K : PySem.W.Frag) (fd : FuncData) (ps ks : List Str) (g : List Value → List Value → List Value) (gV : List V → List V → List V) : Prop where
  to : ∀ (s : Shared) (us ws : List Value), K.In s.heap → (g us ws).length = ps.length → BindsTo s fd ⟨us, ks.zip ws⟩ (ps.zip (g us ws))
  rel : ∀ {vs : List V} {us : List Value} {zs : List V} {ws : List Value}, Vals vs us → Vals zs ws → Vals (gV vs zs) (g us ws)
def tCallK (sp : Sp) (gV : List V → List V → List V) (E : XK) (t tk : TA) : TE := fun σ H Q => t σ H fun vs H1 => tk σ H1 fun zs H2 => sp (gV vs zs) H2 Q E
variable {g : List Value → List Value → List Value} {gV : List V → List V → List V}
end
/-! ### a def's body keeps its promise -/
/-- names: the parameters first -/
structure FnScope (N P : List Str) (sc : Scope) : Prop where
  kind : sc.kind = .function
  co : sc.isCoroutine = false
  gen : sc.isGenerator = false
  nd : N.Nodup
  pre : N.take P.length = P
  par : ∀ x ∈ P, sc.names.lookup x = some .local ∨ sc.names.lookup x = some .cell
  nofree : ∀ y ∈ sc.names, y.2 ≠ .free
theorem bindL_out {kindOf : Str → Option NameKind} {x : Str} : ∀ {binds : List (Str × Value)} {m : Str → Option Value}, (∀ v, (x, v) ∉ binds) → bindL kindOf binds m x = m x
  | [], _, _ => rfl
  | (n, v) :: r, m, h => by
    unfold bindL
    rw [bindL_out fun w hw => h w (List.mem_cons_of_mem _ hw)]
    split
    · have : x ≠ n := by rintro rfl; exact h v List.mem_cons_self
      simp [this]
    · rfl
theorem bindC_out {kindOf : Str → Option NameKind} {x : Str} : ∀ {binds : List (Str × Value)} {m : Str → Option Value}, (∀ v, (x, v) ∉ binds) → bindC kindOf binds m x = m x
  | [], _, _ => rfl
  | (n, v) :: r, m, h => by
    unfold bindC
    rw [bindC_out fun w hw => h w (List.mem_cons_of_mem _ hw)]
    split
    · rfl
    · have : x ≠ n := by rintro rfl; exact h v List.mem_cons_self
      simp [this]
theorem bindL_get {kindOf : Str → Option NameKind} {x : Str} {v : Value} : ∀ {P : List Str} {vs : List Value} {i : Nat} {m : Str → Option Value}, P.Nodup → P[i]? = some x → vs[i]? = some v → kindOf x = some .local →
    bindL kindOf (P.zip vs) m x = some v
  | [], _, _, _, _, h, _, _ => by simp at h
  | _ :: _, [], _, _, _, _, h, _ => by simp at h
  | p :: P, w :: vs, 0, m, nd, h1, h2, hk => by
    simp at h1 h2; subst h1; subst h2
    show bindL kindOf ((p, w) :: P.zip vs) m p = _
    unfold bindL
    rw [bindL_out fun v hv => (List.nodup_cons.mp nd).1 (List.of_mem_zip hv).1, if_pos hk]
    simp
  | p :: P, w :: vs, i + 1, m, nd, h1, h2, hk => by
    show bindL kindOf ((p, w) :: P.zip vs) m x = _
    unfold bindL
    exact bindL_get (i := i) (List.nodup_cons.mp nd).2 (by simpa using h1) (by simpa using h2) hk
theorem bindC_get {kindOf : Str → Option NameKind} {x : Str} {v : Value} : ∀ {P : List Str} {vs : List Value} {i : Nat} {m : Str → Option Value}, P.Nodup → P[i]? = some x → vs[i]? = some v → kindOf x ≠ some .local →
    bindC kindOf (P.zip vs) m x = some v
  | [], _, _, _, _, h, _, _ => by simp at h
  | _ :: _, [], _, _, _, _, h, _ => by simp at h
  | p :: P, w :: vs, 0, m, nd, h1, h2, hk => by
    simp at h1 h2; subst h1; subst h2
    show bindC kindOf ((p, w) :: P.zip vs) m p = _
    unfold bindC
    rw [bindC_out fun v hv => (List.nodup_cons.mp nd).1 (List.of_mem_zip hv).1, if_neg hk]
    simp
  | p :: P, w :: vs, i + 1, m, nd, h1, h2, hk => by
    show bindC kindOf ((p, w) :: P.zip vs) m x = _
    unfold bindC
    exact bindC_get (i := i) (List.nodup_cons.mp nd).2 (by simpa using h1) (by simpa using h2) hk
/-- the names' values at the entry -/
def start (N : List Str) (vs : List V) : St := vs.map some ++ List.replicate (N.length - vs.length) none
/-- the context of a def's body, at its entry; an exception leaves the frame, then lies as CX says -/
def cxOf (CX : CXT) (P : Program) (w : World) (K : PySem.W.Frag) (mg : Str → Option Value) (base : Heap) (N : List Str) (qual : Str) (scope : Scope) (f : Addr) (cd : Value) (A : Around) (outer : List Env) (s : Shared) (H : Hp) (E : XK) : Cx where
  prog := P
  w := w
  K := K
  mg := mg
  base := base
  A := A.deeper (envOfC qual scope s.heap.objs.size f cd)
  N := N
  s_0 := s
  H_0 := H
  env := envOfC qual scope s.heap.objs.size f cd
  outer := outer
  stack := envOfC qual scope s.heap.objs.size f cd :: outer
  ex := []
  calm := true
  fn := fun _ => true
  pn := []
  xe := fun e s' => wpAny (model P w) (A.deeper (envOfC qual scope s.heap.objs.size f cd)) (leaving (envOfC qual scope s.heap.objs.size f cd) e) (fun _ s'' => CX outer H s E e s'') (fun e' s'' => CX outer H s E e' s'') s'
theorem cell_has {sc : Scope} {n : Nat} {x : Str} (h : sc.names.lookup x = some .cell) : ∃ c, (cellsFrom n sc.names []).lookup x = some c := by
  have q := PySem.W.cellsFrom_some sc.names n [] (.inl h)
  exact Option.isSome_iff_exists.mp q
theorem inv_start {CX : CXT} {P : Program} {w : World} {K : PySem.W.Frag} {mg : Str → Option Value} {base : Heap} {N ps : List Str} {qual : Str} {scope : Scope} {f : Addr} {cd : Value} {A : Around} {outer : List Env} {s s1 : Shared} {H : Hp} {E : XK} {us : List Value} {vs : List V}
    (S : FnScope N ps scope) (hd : A.handled = none) (e0 : Env0 P w K mg base A outer s H) (hl : vs.length = ps.length) (r : Vals vs us)
    (x : InCallC s s.heap.objs.size (bindL (envOfC qual scope s.heap.objs.size f cd).kindOf (ps.zip us) fun _ => none) (cellsFrom (s.heap.objs.size + 1) scope.names []) (bindC (envOfC qual scope s.heap.objs.size f cd).kindOf (ps.zip us) fun _ => none) s1) :
    Inv (cxOf CX P w K mg base N qual scope f cd A outer s H E) [] (start N vs) H s1 := by
  have hpl : ps.length ≤ N.length := by have := congrArg List.length S.pre; rw [List.length_take] at this; omega
  obtain ⟨h1, tk, rfl, hk⟩ := x.done
  have noA : ∀ b : Addr, b ∉ (cxOf CX P w K mg base N qual scope f cd A outer s H E).ex := fun b z => absurd (show b ∈ ([] : List Addr) from z) (by simp)
  refine ⟨⟨e0.mod, S.kind, rfl, rfl, Nat.le_refl _, fun y z c h1 h2 => ?_, fun y hy => ?_, fun y c _ h => ?_, fun _ => hd, Around.frames_deeper e0.frames, .inr ⟨rfl, rfl⟩, fun b z => absurd z (noA b), e0.bs, e0.bsz, fun b _ _ => noA b, fun b z => absurd z (noA b), e0.funs, e0.frf⟩,
    rfl, e0.bare, Un.kept hk, ⟨_, x.toInCall.ns, fun i y v h1 h2 h3 => ?_⟩, fun y c h => ⟨_, x.cell y c h⟩, e0.hok.fresh (Nat.le_refl _), fun y c h => ?_, fun p hp => absurd (show p ∈ ([] : List (Addr × Obj)) from hp) (by simp), e0.hok.kept hk, ?_⟩
  · exact name_of_addr x.apart (PySem.mem_of_lookup h1) (PySem.mem_of_lookup h2)
  · have hy : scope.names.lookup y = some .cell ∨ scope.names.lookup y = some .free := hy
    rcases hy with hy | hy
    · exact cell_has hy
    · exact absurd rfl (S.nofree _ (PySem.mem_of_lookup hy))
  · exact Nat.le_of_lt (x.above y c (PySem.mem_of_lookup h))
  · have hi : i < vs.length := by
      unfold start at h2
      by_cases hi : i < vs.length
      · exact hi
      · rw [List.getElem?_append_right (by simpa using hi)] at h2
        rw [List.getElem?_replicate] at h2
        split at h2 <;> cases h2
    have ha : vs[i]? = some v := by
      unfold start at h2
      rw [List.getElem?_append_left (by simpa using hi), List.getElem?_map] at h2
      cases e : vs[i]? with
      | none => rw [e] at h2; cases h2
      | some a => rw [e] at h2; cases h2; rfl
    obtain ⟨u, hu, rv⟩ := r.get ha
    have hp : ps[i]? = some y := by
      rw [← S.pre, List.getElem?_take_of_lt (by omega)]; exact h1
    have ndP : ps.Nodup := by rw [← S.pre]; exact S.nd.sublist (List.take_sublist _ _)
    refine ⟨u, rv, ?_⟩
    rcases S.par y (List.mem_of_getElem? hp) with k | k
    · exact .inl ⟨k, bindL_get ndP hp hu k⟩
    · obtain ⟨c, e⟩ := cell_has (n := s.heap.objs.size + 1) k
      refine .inr ⟨.inl k, c, e, ?_⟩
      have q := x.cell y c e
      rw [bindC_get ndP hp hu (by show scope.names.lookup y ≠ _; rw [k]; decide)] at q
      exact q
  · exact e0.hok.fresh (Nat.le_of_lt (x.above y c (PySem.mem_of_lookup h)))
  · unfold start
    show _ = N.length
    rw [List.length_append, List.length_map, List.length_replicate]
    omega
/-- THE RULE: a def (or a method) of the text, by its body. The body's reading t is chosen for each entry; it is run at the parameters' values -/
theorem fn_of {CX : CXT} {P : Program} {w : World} {K : PySem.W.Frag} {mg : Str → Option Value} {base : Heap} {k : Nat} {f : Addr} {name qual : Str} {params : Arguments} {body : List Stmt} {scope : Scope} {dV kV doc pm cdv ct oc : Value} {an od : Option Addr}
    {osl : Array (Option Value)} {N ps : List Str} {sp : Sp} (lk : K.lookup f = some ⟨oc, od, .func (PySem.W.fnOf name qual params body scope dV kV doc pm an cdv ct), osl⟩) (hcd : PySem.W.codeIn K cdv qual = true) (S : FnScope N ps scope)
    (len : ∀ vs H Q E, sp vs H Q E → vs.length = ps.length)
    (hbody : ∀ (A : Around) (outer : List Env) (s : Shared) (H : Hp) (vs : List V) (Q : VK) (E : XK), Room k (A.deeper (envOfC qual scope s.heap.objs.size f cdv)) → sp vs H Q E →
      ∃ t, PSs (cxOf CX P w K mg base N qual scope f cdv A outer s H E) body t ∧ t { nx := fun _ H' => Q .non H', rt := Q } (start N vs) H) :
    FnOk P w K mg base CX (k + 1) f (PySem.W.fnOf name qual params body scope dV kV doc pm an cdv ct) ps sp := by
  refine ⟨len, fun A outer s H args us vs Q E hr e0 hb r hsp => ?_⟩
  have hl := len _ _ _ _ hsp
  have KX : K.In s.heap := e0.mod.kin.keeps fun b o e => (e0.bs b o e).1
  have lim : s.heap.NoLimit := e0.mod.nolimit.keeps fun b o e => (e0.bs b o e).1
  have hkind : ∀ y ∈ ps.zip us, scope.names.lookup y.1 = some .local ∨ (scope.names.lookup y.1 = some .cell ∧ ((cellsFrom (s.heap.objs.size + 1) scope.names []).lookup y.1).isSome = true) := fun ⟨n, v⟩ hy => by
    rcases S.par n (List.of_mem_zip hy).1 with q | q
    · exact .inl q
    · exact .inr ⟨q, PySem.W.cellsFrom_some _ _ _ (.inl q)⟩
  refine codeAny_call_function hr.depth (KX _ _ lk) rfl S.co S.gen rfl (PySem.W.codeRec_of KX hcd) (hb _ _ _ _ ?_)
  refine wpAny_newFunctionEnv_cells S.kind hkind fun env he s1 x => ?_
  subst he
  refine ⟨lim.keeps x.toInCall.keep, codeAny_func ?_⟩
  obtain ⟨t, ht, hq⟩ := hbody A outer s H vs Q E (hr.deeper _) hsp
  have I : Inv (cxOf CX P w K mg base N qual scope f cdv A outer s H E) [] (start N vs) H s1 := inv_start S hr.hd e0 hl r x
  refine wpAny_mono (ht [] s1 (start N vs) H _ I hq) (fun fl s' hs => ?_) fun e s' hs => hs
  have fin : ∀ {σ' : St} {H' : Hp} {v : V} {u : Value}, Inv (cxOf CX P w K mg base N qual scope f cdv A outer s H E) [] σ' H' s' → RelV v u → Q v H' → CE outer P w H s Q u s' :=
    fun {σ' H' v u} J rv q => ⟨v, H', J.os, J.bare, J.base, J.hok, rv, q⟩
  cases fl with
  | ret u =>
    obtain ⟨v, σ', H', J, rv, q⟩ := hs
    exact fin J rv q
  | next =>
    obtain ⟨σ', H', J, q⟩ := hs
    exact fin (v := V.non) (u := Value.none) J rfl q
  | brk =>
    obtain ⟨_, _, _, q⟩ := hs
    exact False.elim q
  | cont =>
    obtain ⟨_, _, _, q⟩ := hs
    exact False.elim q
end L2
namespace L2
open PySem PySem.Spec PyProof.Rows
section
variable {X : Cx} {x : Str} {p pos : Pos} {e : Expr} {es : List Expr} {t : TA} {id T : String} {r : List V → Hp → VK → Prop}
def tCB (r : List V → Hp → VK → Prop) (t : TA) : TE := fun σ H Q => t σ H fun vs H1 => r vs H1 Q
/-- f(e, ..), f a built-in function -/
theorem pe_callB (hc : CallR X (.builtin id) r) (hg : Gl X x) (hm : X.mg x = none) (hv : bootBuiltins x = some (.builtin id)) (ha : PA X (e :: es) t) (hn : x ≠ "__name__" := by decide) (hdb : (x == ("__debug__" : Str)) = false := by decide)
    (he : starEach (e :: es) X.env = (false, eval e X.env) :: starEach es X.env := by rfl) (hpl : (backTo pos (starEach es X.env)).any (·.1) = false := by rfl) : PE X (.Call (.Name x p) (e :: es) [] pos) (tCB r t) := by
  intro pins s σ H Q I h
  refine wpAny_Call_Name_kw (ld_blt I hg hm hv ?_ hn hdb)
  exact PyProof.Rows.callWith_builtin1 (thn (ha pos pins s σ H _ I h) fun us s1 ⟨vs, H1, I1, r1, q1⟩ => hc pins s1 σ H1 vs us Q I1 r1 q1) he hpl
/-- T(e, ..), T a built-in type -/
theorem pe_callTy (hc : CallR X (.type T) r) (hg : Gl X x) (hm : X.mg x = none) (hv : bootBuiltins x = some (.type T)) (ha : PA X (e :: es) t) (hn : x ≠ "__name__" := by decide) (hdb : (x == ("__debug__" : Str)) = false := by decide)
    (he : starEach (e :: es) X.env = (false, eval e X.env) :: starEach es X.env := by rfl) (hpl : (backTo pos (starEach es X.env)).any (·.1) = false := by rfl) : PE X (.Call (.Name x p) (e :: es) [] pos) (tCB r t) := by
  intro pins s σ H Q I h
  refine wpAny_Call_Name_kw (ld_blt I hg hm hv ?_ hn hdb)
  exact PyProof.Rows.callWith_type1 (thn (ha pos pins s σ H _ I h) fun us s1 ⟨vs, H1, I1, r1, q1⟩ => hc pins s1 σ H1 vs us Q I1 r1 q1) he hpl
end
end L2
namespace HT
open PySem PyProof.Rows
/-- t < u of tuples of ints -/
def lexLt : List Int → List Int → Bool
  | [], [] => false
  | [], _ :: _ => true
  | _ :: _, [] => false
  | x :: xs, y :: ys => if x = y then lexLt xs ys else decide (x < y)
section
open PySem.SeqAt
open PySem.AutoSeq1 (wpAny_loadPart')
open PySem.MeetsSeq PySem.MeetsSeq2 PySem.MeetsSeq3
end
section
variable {prog : Program} {w : World} {A : Around} {E : Value → Shared → Prop} {s : Shared}
/-! ### t[a:b], not the whole -/
/-- a slice's bound as a place among n (d where it is left out) -/
def sIx (n d : Nat) : Option Int → Nat
  | none => d
  | some v => if v < 0 then (v + (n : Int)).toNat else min v.toNat n
theorem sIx_none (n d : Nat) : sIx n d none = d := rfl
theorem sIx_nat (n d k : Nat) : sIx n d (some (k : Int)) = min k n := by
  show (if (k : Int) < 0 then ((k : Int) + (n : Int)).toNat else min (k : Int).toNat n) = min k n
  rw [if_neg (by omega), Int.toNat_natCast]
end
end HT
namespace L2
open PySem PySem.Spec PyProof.Rows
/-! ### the parts of a slice -/
abbrev TO := St → Hp → (Option Int → Hp → Prop) → Prop
/-- a slice's part (left out, or an int) -/
def PO (X : Cx) (e : Option Expr) (t : TO) : Prop :=
  ∀ (pins : List (Addr × Obj)) (s : Shared) (σ : St) (H : Hp) (Q : Option Int → Hp → Prop), Inv X pins σ H s → t σ H Q →
    wpAny (model X.prog X.w) X.A (evalPart e X.env) (fun u s' => ∃ o H', Inv X pins σ H' s' ∧ IsPart u o ∧ Q o H') X.xe s
def tNoPart : TO := fun _ H Q => Q none H
def tPart (t : TE) : TO := fun σ H Q => t σ H fun x H1 => ∃ i, x = .int i ∧ Q (some i) H1
theorem intsAre_of {ns : List Int} : ∀ {us : List Value}, Vals (ns.map V.int) us → IntsAre us ns := by
  induction ns with
  | nil => intro us r; rw [List.map_nil] at r; cases r; exact .nil
  | cons n ns ih =>
    intro us r
    rw [List.map_cons] at r
    cases r with
    | cons r1 r2 =>
      obtain ⟨t, e⟩ := r1
      subst e
      exact .cons n t (ih r2)
section
variable {X : Cx} {e : Expr} {te : TE} {lo hi : Option Expr} {tl th : TO} {pos p2 : Pos}
theorem po_none : PO X none tNoPart := by
  intro pins s σ H Q I h
  rw [evalPart_none]
  exact wpAny_pure ⟨none, H, I, .none, h⟩
theorem po_some (h : PE X e te) : PO X (some e) (tPart te) := by
  intro pins s σ H Q I hw
  rw [evalPart_some]
  refine thn (h pins s σ H _ I hw) fun u s1 ⟨x, H1, I1, r1, q1⟩ => ?_
  obtain ⟨i, rfl, q⟩ := q1
  obtain ⟨t, rfl⟩ := r1
  exact ⟨some i, H1, I1, .int i t, q⟩
/-- what a slice of a value is, by values: the slice object stands at sl -/
def SlR (X : Cx) (r : V → Option Int → Option Int → Hp → VK → Prop) : Prop :=
  ∀ (pins : List (Addr × Obj)) (s : Shared) (σ : St) (H : Hp) (x : V) (v vl vu : Value) (lo hi : Option Int) (sl : Addr) (Q : VK), Inv X pins σ H s → RelV x v → s.heap.IsSliceOf sl vl vu .none → IsPart vl lo → IsPart vu hi → r x lo hi H Q →
    ∃ T id, typeLookup (.type T) "__getitem__" = pure (some (.builtin id)) ∧ s.TypeIs v T ∧ wpAny (model X.prog X.w) X.A (getItem v (.ref sl)) (EP X pins σ Q) X.xe s
def tSl (r : V → Option Int → Option Int → Hp → VK → Prop) (te : TE) (tl th : TO) : TE := fun σ H Q => te σ H fun x H1 => tl σ H1 fun l H2 => th σ H2 fun u H3 => r x l u H3 Q
/-- a[lo:hi], any a -/
theorem pe_slice {r : V → Option Int → Option Int → Hp → VK → Prop} (hr : SlR X r) (he : PE X e te) (hl : PO X lo tl) (hu : PO X hi th) : PE X (.Subscript e (.Slice lo hi none p2) pos) (tSl r te tl th) := by
  intro pins s σ H Q I h
  refine Subscript_ (thn (he pins s σ H _ I h) fun v s1 ⟨x, H1, I1, r1, q1⟩ => ?_)
  refine wpAny_Slice (thn (hl pins s1 σ H1 _ I1 q1) fun vl s2 ⟨l, H2, I2, pl, q2⟩ => thn (hu pins s2 σ H2 _ I2 q2) fun vu s3 ⟨u, H3, I3, pu, q3⟩ => ?_)
  rw [evalPart_none]
  refine wpAny_pure ?_
  have I4 : Inv X pins σ H3 { s3 with heap := s3.heap.push { cls := .type "slice", data := .fields #[vl, vu, .none] } } := I3.kept (t' := s3.toks) fun b ob q => Heap.get?_push_of_some _ q
  obtain ⟨T, id, hT, ht, hg⟩ := hr pins { s3 with heap := s3.heap.push { cls := .type "slice", data := .fields #[vl, vu, .none] } } σ H3 x v vl vu l u s3.heap.objs.size Q I4 r1 (Heap.IsSliceOf.new ..) pl pu q3
  show wpAny (model X.prog X.w) X.A (subscriptTail e (.Slice lo hi none p2) v (.ref s3.heap.objs.size)) (EP X pins σ Q) X.xe { s3 with heap := s3.heap.push { cls := .type "slice", data := .fields #[vl, vu, .none] } }
  exact tail_any (ops := [.ref s3.heap.objs.size, v]) ht hT hg (by with_unfolding_all rfl)
/-- the items of xs[lo:hi] -/
def cutV (xs : List V) (lo hi : Option Int) : List V := (xs.drop (HT.sIx xs.length 0 lo)).take (HT.sIx xs.length xs.length hi - HT.sIx xs.length 0 lo)
theorem cutV_length (xs : List V) (lo hi : Option Int) : (cutV xs lo hi).length ≤ xs.length := by
  unfold cutV
  rw [List.length_take, List.length_drop]
  omega
/-- t[lo:hi], not the whole of it (the whole would be t itself) -/
def rSlT (K : PySem.W.Frag) : V → Option Int → Option Int → Hp → VK → Prop := fun x lo hi H Q => ∃ a xs, x = .ref a ∧ SqT K H a xs ∧
  ¬ (HT.sIx xs.length 0 lo = 0 ∧ HT.sIx xs.length xs.length hi = xs.length) ∧ ∀ p, H p = none → Q (.ref p) (upd H p (.tup (cutV xs lo hi)))
/-! ### t < u, t + u -/
def rLtT (K : PySem.W.Frag) : R2 := fun x y H Q => ∃ a b ns ms, x = .ref a ∧ y = .ref b ∧ SqT K H a (ns.map V.int) ∧ SqT K H b (ms.map V.int) ∧ Q (.bl (HT.lexLt ns ms)) H
/-- t + u, t not empty: u empty gives t itself -/
def rCatT (K : PySem.W.Frag) : R2 := fun x y H Q => ∃ a b xs ys, x = .ref a ∧ y = .ref b ∧ SqT K H a xs ∧ SqT K H b ys ∧ xs ≠ [] ∧ xs.length + ys.length ≤ sizeLine ∧
  (ys = [] → Q (.ref a) H) ∧ (ys ≠ [] → ∀ p, H p = none → Q (.ref p) (upd H p (.tup (xs ++ ys))))
end
end L2
namespace L2
open PySem PySem.Spec PyProof.Rows
/-! ### places -/
/-- the place that an index of any sign means -/
def ixN (n : Nat) (i : Int) : Option Nat := if 0 ≤ i then (if i < n then some i.toNat else none) else if -(n : Int) ≤ i then some (i + n).toNat else none
def atI {α : Type} (xs : List α) (i : Int) : Option α := (ixN xs.length i).bind fun j => xs[j]?
theorem ixN_seq {n : Nat} {i : Int} {j : Nat} (h : ixN n i = some j) : seqIndex? i n = some j ∧ j < n ∧ -(n : Int) ≤ i ∧ i < n := by
  unfold ixN at h
  by_cases h0 : 0 ≤ i
  · rw [if_pos h0] at h
    by_cases h1 : i < n
    · rw [if_pos h1] at h
      have e : i.toNat = j := Option.some.inj h
      exact ⟨by rw [seqIndex_of h0 h1, e], by omega, by omega, h1⟩
    · rw [if_neg h1] at h; cases h
  · rw [if_neg h0] at h
    by_cases h1 : -(n : Int) ≤ i
    · rw [if_pos h1] at h
      have e : (i + n).toNat = j := Option.some.inj h
      exact ⟨by rw [seqIndex_neg (by omega) h1, e], by omega, h1, by omega⟩
    · rw [if_neg h1] at h; cases h
theorem atI_get {α : Type} {xs : List α} {i : Int} {v : α} (h : atI xs i = some v) : ∃ j, seqIndex? i xs.length = some j ∧ xs[j]? = some v ∧ j < xs.length ∧ -(xs.length : Int) ≤ i ∧ i < xs.length := by
  unfold atI at h
  cases e : ixN xs.length i with
  | none => rw [e] at h; cases h
  | some j =>
    rw [e] at h
    obtain ⟨h1, h2, h3, h4⟩ := ixN_seq e
    exact ⟨j, h1, h, h2, h3, h4⟩
theorem atI_nat {α : Type} {xs : List α} {j : Nat} {v : α} (h : xs[j]? = some v) : atI xs (j : Int) = some v := by
  have hj : j < xs.length := (List.getElem?_eq_some_iff.mp h).1
  have e : ixN xs.length (j : Int) = some j := by
    unfold ixN
    rw [if_pos (by omega), if_pos (by omega)]; simp
  unfold atI; rw [e]; exact h
theorem atI_last {α : Type} (xs : List α) (v : α) : atI (xs ++ [v]) (-1) = some v := by
  have hl : (xs ++ [v]).length = xs.length + 1 := by simp
  have e : ixN (xs ++ [v]).length (-1) = some xs.length := by
    unfold ixN
    rw [hl, if_neg (by decide), if_pos (by omega)]
    congr 1
    omega
  unfold atI
  rw [e]
  show (xs ++ [v])[xs.length]? = some v
  simp
/-! ### what may be subscripted -/
/-- what stands as an index of a plain subscript -/
def PlainIx (b : Expr) : Prop := ∀ o i, subscripted b false o i = operate [o, i] (getItem o i)
/-- a subscript by values -/
def IxR (X : Cx) (r : R2) : Prop :=
  ∀ (value slice : Expr) (pins : List (Addr × Obj)) (s : Shared) (σ : St) (H : Hp) (x y : V) (v u : Value) (Q : VK), Inv X pins σ H s → RelV x v → RelV y u → r x y H Q →
    subscripted slice false v u = operate [v, u] (getItem v u) → wpAny (model X.prog X.w) X.A (subscriptTail value slice v u) (EP X pins σ Q) X.xe s
/-- a call of a builtin's method by values: the receiver, the arguments -/
def MtR (X : Cx) (id : String) (r : V → List V → Hp → VK → Prop) : Prop :=
  ∀ (pins : List (Addr × Obj)) (s : Shared) (σ : St) (H : Hp) (x : V) (xs : List V) (v : Value) (us : List Value) (Q : VK), Inv X pins σ H s → RelV x v → Vals xs us → r x xs H Q →
    wpAny (model X.prog X.w) X.A (call (.builtin id) (v :: us)) (EP X pins σ Q) X.xe s
section
variable {X : Cx} {a b : Expr} {ta tb : TE} {pos : Pos}
/-- a[b] -/
theorem pe_ix {r : R2} (hr : IxR X r) (ha : PE X a ta) (hb : PE X b tb) (hs : PlainIx b) : PE X (.Subscript a b pos) (tOp r ta tb) := by
  intro pins s σ H Q I h
  exact Subscript_ (binT ha hb I h fun v u s2 x y H2 I2 rx ry q => hr a b pins s2 σ H2 x y v u Q I2 rx ry q (hs _ _))
def rIxL (K : PySem.W.Frag) : R2 := fun x y H Q => ∃ p xs i v, x = .ref p ∧ y = .int i ∧ SqL K H p xs ∧ atI xs i = some v ∧ Q v H
def rIxT (K : PySem.W.Frag) : R2 := fun x y H Q => ∃ p xs i v, x = .ref p ∧ y = .int i ∧ SqT K H p xs ∧ atI xs i = some v ∧ Q v H
def rIxS : R2 := fun x y H Q => ∃ z i c, x = .str z ∧ y = .int i ∧ z.length ≤ sizeLine ∧ atI z.cps.toList i = some c ∧ Q (.str ⟨#[c]⟩) H
theorem ix_list : IxR X (rIxL X.K) := by
  intro value slice pins s σ H x y v u Q I rx ry h hs
  obtain ⟨p, xs, i, z, rfl, rfl, hq, he, q⟩ := h
  cases rx
  obtain ⟨t, rfl⟩ := ry
  obtain ⟨its, r, pl, hz⟩ := I.list hq
  obtain ⟨j, h1, h2, h3, h4, h5⟩ := atI_get he
  obtain ⟨w, ew, rw'⟩ := r.get h2
  have hl := r.length
  have hn := line63
  have fin : EP X pins σ Q w s := ⟨z, H, I, rw', q⟩
  by_cases h0 : 0 ≤ i
  · have hj : i.toNat = j := by
      rw [seqIndex_of h0 h5] at h1
      exact Option.some.inj h1
    exact item_listR pl.isList h0 (by omega) (by rw [hj]; simpa using ew) fin hs
  · have hj : (i + (its.toArray.size : Int)).toNat = j := by
      rw [seqIndex_neg (by omega) h4] at h1
      rw [List.size_toArray, ← hl]
      exact Option.some.inj h1
    exact subscriptTail_builtinR (x := w) pl.isList.typeIs slot_list_getitem.lookup
      (wpAny_getItem_list_neg (Q := fun r s' => r = w ∧ EP X pins σ Q r s') pl.isList (by omega) (by rw [List.size_toArray] <;> omega) (by omega) (by rw [hj]; simpa using ew) ⟨rfl, fin⟩) hs
/-- list, tuple or str -/
def rIx (K : PySem.W.Frag) : R2 := fun x y H Q => rIxL K x y H Q ∨ rIxT K x y H Q ∨ rIxS x y H Q
/-! ### xs[i] = v, any sign -/
/-- the list's object behind a store -/
theorem mapSeq_set (its : List Value) (n j : Nat) (u : Value) : Obj.mapSeq (·.setIfInBounds j u) { cls := .type "list", data := .seq its.toArray n } = { cls := .type "list", data := .seq (its.set j u).toArray n } := by
  simp [Obj.mapSeq]
theorem Inv.lst {pins : List (Addr × Obj)} {σ : St} {H : Hp} {s : Shared} {p : Addr} {xs : List V} (I : Inv X pins σ H s) (h : H p = some (.lst xs)) :
    ∃ (its : List Value) (n : Nat), Vals xs its ∧ s.heap.get? p = some { cls := .type "list", data := .seq its.toArray n } ∧ xs.length ≤ sizeLine := by
  obtain ⟨z, its, n, r, e⟩ := I.hok p _ h
  exact ⟨its, n, r, e, z⟩
/-- the list at p is written by an update of its object -/
theorem Inv.lstUpd {pins : List (Addr × Obj)} {σ : St} {H : Hp} {s : Shared} {p : Addr} {xs ys : List V} {its its' : List Value} {n n' : Nat} {f : Obj → Obj} (I : Inv X pins σ H s) (h : H p = some (.lst xs))
    (ho : s.heap.get? p = some { cls := .type "list", data := .seq its.toArray n }) (hf : f { cls := .type "list", data := .seq its.toArray n } = { cls := .type "list", data := .seq its'.toArray n' }) (r : Vals ys its') (hz : ys.length ≤ sizeLine) (t : Nat) :
    Inv X pins σ (upd H p (.lst ys)) { s with heap := s.heap.update p f, toks := t } := by
  have e : (s.heap.update p f).get? p = some { cls := .type "list", data := .seq its'.toArray n' } := by
    rw [Heap.get?_update_self f ho (by rw [hf] <;> rfl), hf]
  refine I.write (x := p) (e := p) (by rw [h]; trivial) (.inl rfl) (fun b u hb q => (Heap.get?_update_other _ _ (Ne.symm hb)).trans q) ⟨_, e⟩ ?_
  exact ⟨hz, its', n', r, e⟩
def rSetL : V → V → V → Hp → (Hp → Prop) → Prop := fun o i v H Q => ∃ p xs k j, o = .ref p ∧ i = .int k ∧ H p = some (.lst xs) ∧ ixN xs.length k = some j ∧ Q (upd H p (.lst (xs.set j v)))
theorem set_list : PSet X rSetL := by
  intro pins s σ H o i v ov iv u Q I ro ri rv h
  obtain ⟨p, xs, k, j, rfl, rfl, hp, hj, q⟩ := h
  cases ro
  obtain ⟨t, rfl⟩ := ri
  obtain ⟨its, n, r, ho, hz⟩ := I.lst hp
  obtain ⟨h1, h2, h3, h4⟩ := ixN_seq hj
  have hl := r.length
  have hn := line63
  have I' : Inv X pins σ (upd H p (.lst (xs.set j v))) { s with heap := s.heap.update p (Obj.mapSeq (·.setIfInBounds j u)) } :=
    I.lstUpd hp ho (mapSeq_set its n j u) (r.set rv j) (by rw [List.length_set]; exact hz) s.toks
  by_cases h0 : 0 ≤ k
  · have hk : k.toNat = j := by
      rw [seqIndex_of h0 h4] at h1
      exact Option.some.inj h1
    exact PySem.W.ki_setAt ho h0 (by omega) (by rw [List.size_toArray, ← hl]; exact h4) (by rw [hk]; exact ⟨_, I', q⟩)
  · have hk : (k + (its.toArray.size : Int)).toNat = j := by
      rw [seqIndex_neg (by omega) h3] at h1
      rw [List.size_toArray, ← hl]
      exact Option.some.inj h1
    exact PySem.W.ki_setBack ho (by omega) (by rw [List.size_toArray, ← hl]; exact h3) (by omega) (by rw [hk]; exact ⟨_, I', q⟩)
/-! ### slices -/
theorem slice_bounds (lo hi : Option Int) (n : Nat) : (sliceBounds lo hi none n).1 = ((HT.sIx n 0 lo : Nat) : Int) ∧ (sliceBounds lo hi none n).2.1 = ((HT.sIx n n hi : Nat) : Int) ∧ (sliceBounds lo hi none n).2.2 = 1 := by
  refine ⟨?_, ?_, rfl⟩
  · cases lo with
    | none => simp [sliceBounds, HT.sIx]
    | some i =>
      simp only [sliceBounds, HT.sIx, Option.getD_none, show (1 : Int) > 0 by decide, if_true]
      by_cases h : i < 0
      · simp only [h, if_true] <;> omega
      · simp only [h, if_false] <;> omega
  · cases hi with
    | none => simp [sliceBounds, HT.sIx]
    | some i =>
      simp only [sliceBounds, HT.sIx, Option.getD_none, show (1 : Int) > 0 by decide, if_true]
      by_cases h : i < 0
      · simp only [h, if_true] <;> omega
      · simp only [h, if_false] <;> omega
theorem slicePick_cut (its : List Value) (lo hi : Option Int) : slicePick its.toArray lo hi none = ((its.drop (HT.sIx its.length 0 lo)).take (HT.sIx its.length its.length hi - HT.sIx its.length 0 lo)).toArray := by
  obtain ⟨h1, h2, h3⟩ := slice_bounds lo hi its.toArray.size
  unfold slicePick
  rw [h1, h2, h3]
  simp only [sliceRange_one, pick_run, List.size_toArray] <;> rfl
/-- xs[lo:hi] of a list: a new list -/
def rSlL (K : PySem.W.Frag) : V → Option Int → Option Int → Hp → VK → Prop := fun x lo hi H Q => ∃ a xs, x = .ref a ∧ SqL K H a xs ∧ ∀ p, H p = none → Q (.ref p) (upd H p (.lst (cutV xs lo hi)))
theorem sl_list : SlR X (rSlL X.K) := by
  intro pins s σ H x v vl vu lo hi sl Q I rx hs pl pu h
  obtain ⟨a, xs, rfl, hx, q⟩ := h
  cases rx
  obtain ⟨its, r, ht, hz⟩ := I.list hx
  have hlen := r.length
  refine ⟨"list", _, slot_list_getitem.lookup, ht.isList.typeIs, ?_⟩
  refine wpAny_getItem_list_slice ht.isList hs pl pu .none (by simp) ?_ (by rw [List.size_toArray] <;> omega)
  rw [slicePick_cut, ← hlen]
  refine ⟨.ref s.heap.objs.size, _, I.laid (t' := s.toks) (o := .lst (cutV xs lo hi)) (fun b ob q => Heap.get?_push_of_some _ q) (Nat.le_refl _) ?_, rfl, q _ (I.hok.fresh (Nat.le_refl _))⟩
  exact ⟨Nat.le_trans (cutV_length xs lo hi) hz, _, 0, (r.drop (HT.sIx xs.length 0 lo)).take (HT.sIx xs.length xs.length hi - HT.sIx xs.length 0 lo), Heap.get?_push_size _ rfl⟩
/-! ### in, not in: flat items -/
def flatV : V → Bool
  | .non => true
  | .bl _ => true
  | .int _ => true
  | .str _ => true
  | _ => false
/-- == of flat values -/
def eqV : V → V → Bool
  | .non, .non => true
  | .bl a, .bl b => a == b
  | .bl a, .int b => (if a then 1 else 0) == b
  | .int a, .bl b => a == (if b then 1 else 0)
  | .int a, .int b => a == b
  | .str a, .str b => a == b
  | _, _ => false
theorem eqAt_V {A : Around} {s : Shared} {y x : V} {u v : Value} (ry : RelV y u) (rx : RelV x v) (fy : flatV y = true) (fx : flatV x = true) : SeqAt.EqAt A s u v (eqV y x) := by
  cases y with
  | non =>
    cases ry
    cases x with
    | non => cases rx; exact SeqAt.EqAt.same _
    | bl b => cases rx; exact SeqAt.EqAt.none_bool b
    | int b => obtain ⟨t, rfl⟩ := rx; exact SeqAt.EqAt.none_int b t
    | str b => obtain ⟨t, rfl⟩ := rx; exact SeqAt.EqAt.none_str b t
    | _ => exact absurd (show false = true from fx) Bool.false_ne_true
  | bl a =>
    cases ry
    cases x with
    | non => cases rx; exact SeqAt.EqAt.bool_none a
    | bl b => cases rx; exact SeqAt.EqAt.bool_bool a b
    | int b => obtain ⟨t, rfl⟩ := rx; exact SeqAt.EqAt.bool_int a b t
    | str b => obtain ⟨t, rfl⟩ := rx; exact SeqAt.EqAt.bool_str a b t
    | _ => exact absurd (show false = true from fx) Bool.false_ne_true
  | int a =>
    obtain ⟨t', rfl⟩ := ry
    cases x with
    | non => cases rx; exact SeqAt.EqAt.int_none a t'
    | bl b => cases rx; exact SeqAt.EqAt.int_bool a t' b
    | int b => obtain ⟨t, rfl⟩ := rx; exact SeqAt.EqAt.int_int a t' b t
    | str b => obtain ⟨t, rfl⟩ := rx; exact SeqAt.EqAt.int_str a t' b t
    | _ => exact absurd (show false = true from fx) Bool.false_ne_true
  | str a =>
    obtain ⟨t', rfl⟩ := ry
    cases x with
    | non => cases rx; exact SeqAt.EqAt.str_none a t'
    | bl b => cases rx; exact SeqAt.EqAt.str_bool a t' b
    | int b => obtain ⟨t, rfl⟩ := rx; exact SeqAt.EqAt.str_int a t' b t
    | str b => obtain ⟨t, rfl⟩ := rx; exact SeqAt.EqAt.str_str a t' b t
    | _ => exact absurd (show false = true from fx) Bool.false_ne_true
  | _ => exact absurd (show false = true from fy) Bool.false_ne_true
/-- the items' answers, read off the values (a value's own answer does not lean on its token) -/
def eqU (x : V) (u : Value) : Bool := match u with
  | .none => eqV .non x
  | .bool b => eqV (.bl b) x
  | .int i _ => eqV (.int i) x
  | .str z _ => eqV (.str z) x
  | _ => false
theorem eqU_of {x y : V} {u : Value} (r : RelV y u) (f : flatV y = true) : eqU x u = eqV y x := by
  cases y with
  | non => cases r; rfl
  | bl b => cases r; rfl
  | int i => obtain ⟨t, rfl⟩ := r; rfl
  | str z => obtain ⟨t, rfl⟩ := r; rfl
  | _ => exact absurd (show false = true from f) Bool.false_ne_true
theorem any_eqU {x : V} : ∀ {xs : List V} {us : List Value}, Vals xs us → xs.all flatV = true → us.any (eqU x) = xs.any fun y => eqV y x
  | _, _, .nil, _ => rfl
  | y :: xs, u :: us, .cons r t, f => by
    rw [List.all_cons, Bool.and_eq_true] at f
    rw [List.any_cons, List.any_cons, eqU_of r f.1, any_eqU t f.2]
theorem mem_eqAt {A : Around} {s : Shared} {x : V} {v : Value} (rx : RelV x v) (fx : flatV x = true) : ∀ {xs : List V} {us : List Value}, Vals xs us → xs.all flatV = true → ∀ u ∈ us, SeqAt.EqAt A s u v (eqU x u)
  | _, _, .nil, _ => fun u hu => by cases hu
  | y :: xs, u :: us, .cons r t, f => fun u' hu => by
    rw [List.all_cons, Bool.and_eq_true] at f
    rcases List.mem_cons.mp hu with rfl | hu
    · rw [eqU_of r f.1]; exact eqAt_V r rx f.1 fx
    · exact mem_eqAt rx fx t f.2 u' hu
def inV (x : V) (xs : List V) : Bool := xs.any fun y => eqV y x
/-- x in a list or tuple of flat items -/
def rIn (K : PySem.W.Frag) (neg : Bool) : R2 := fun x y H Q => ∃ p xs, y = .ref p ∧ (SqL K H p xs ∨ SqT K H p xs) ∧ flatV x = true ∧ xs.all flatV = true ∧ Q (.bl (if neg then !inV x xs else inV x xs)) H
theorem op_in_seq : OpR X (compareOp .In) (rIn X.K false) := by
  intro pins s σ H x y v u Q I rx ry h
  obtain ⟨p, xs, rfl, hq, fx, fs, q⟩ := h
  cases ry
  rcases hq with hq | hq
  · obtain ⟨its, r, pl, hz⟩ := I.list hq
    refine SeqAt.in_listAt (eqU x) pl.isList (fun w hw => mem_eqAt rx fx r fs w (by simpa using hw)) ⟨.bl _, H, I, rfl, ?_⟩
    rw [show its.toArray.any (eqU x) = its.any (eqU x) by simp, any_eqU r fs]
    exact q
  · obtain ⟨its, r, pl, hz⟩ := I.tuple hq
    refine SeqAt.in_tupleAt (eqU x) pl (fun w hw => mem_eqAt rx fx r fs w (by simpa using hw)) ⟨.bl _, H, I, rfl, ?_⟩
    rw [show its.toArray.any (eqU x) = its.any (eqU x) by simp, any_eqU r fs]
    exact q
/-! ### len, list(x), tuple(x) of any list or tuple that is read -/
theorem call_len_seq : CallR X (.builtin "len") (fun xs H Q => ∃ p ys, xs = [.ref p] ∧ (SqL X.K H p ys ∨ SqT X.K H p ys) ∧ Q (.int ys.length) H) := by
  intro pins s σ H xs us Q I r h
  obtain ⟨p, ys, rfl, hq, q⟩ := h
  obtain ⟨u, rfl, rx⟩ := vals1 r
  cases rx
  have hn := line63
  rcases hq with hq | hq
  · obtain ⟨its, r', pl, hz⟩ := I.list hq
    have hlen := r'.length
    exact Calls.call_len_list pl.isList (by simp only [List.size_toArray] <;> omega) ⟨.int ys.length, H, I.tok _, ⟨s.toks + 1, by rw [List.size_toArray, hlen]⟩, q⟩
  · obtain ⟨its, r', pl, hz⟩ := I.tuple hq
    have hlen := r'.length
    exact len_tuple pl (by simp only [List.size_toArray] <;> omega) ⟨.int ys.length, H, I.tok _, ⟨s.toks + 1, by rw [List.size_toArray, hlen]⟩, q⟩
theorem call_len_str : CallR X (.builtin "len") (fun xs H Q => ∃ z, xs = [.str z] ∧ z.length ≤ sizeLine ∧ Q (.int z.length) H) := by
  intro pins s σ H xs us Q I r h
  obtain ⟨z, rfl, hz, q⟩ := h
  obtain ⟨u, rfl, t, rfl⟩ := vals1 r
  have hn := line63
  exact len_str (by omega) ⟨.int z.length, H, I.tok _, ⟨_, rfl⟩, q⟩
/-! ### the call of a builtin's method: o.m(..) -/
/-- the value is of that builtin type -/
def tyV (K : PySem.W.Frag) (T : String) (x : V) (H : Hp) : Prop := match x with
  | .str _ => T = "str"
  | .int _ => T = "int"
  | .ref p => (T = "list" ∧ ∃ xs, SqL K H p xs) ∨ (T = "tuple" ∧ ∃ o, K.lookup p = some o ∧ o.cls = .type "tuple" ∧ o.dict = none) ∨
      (T = "dict" ∧ ((∃ kvs, H p = some (.dK kvs)) ∨ ∃ kvs, H p = some (.dT kvs))) ∨ (T = "set" ∧ ∃ S n, H p = some (.set S n))
  | _ => False
theorem tyV_is {pins : List (Addr × Obj)} {σ : St} {H : Hp} {s : Shared} {T : String} {x : V} {v : Value} (I : Inv X pins σ H s) (r : RelV x v) (ty : tyV X.K T x H) :
    s.TypeIs v T ∧ ∀ a, v = .ref a → ∃ ob, s.heap.get? a = some ob ∧ ob.dict = none := by
  cases x with
  | str z =>
    obtain ⟨t, rfl⟩ := r
    cases (show T = "str" from ty)
    exact ⟨typeIs_str s z t, fun _ e => nomatch e⟩
  | int i =>
    obtain ⟨t, rfl⟩ := r
    cases (show T = "int" from ty)
    exact ⟨typeIs_int s i t, fun _ e => nomatch e⟩
  | ref p =>
    cases r
    rcases ty with ⟨rfl, xs, hq⟩ | ⟨rfl, o, hk, hc, hd⟩ | ⟨rfl, hk⟩ | ⟨rfl, S, n, hk⟩
    · obtain ⟨its, _, pl, _⟩ := I.list hq
      refine ⟨pl.isList.typeIs, fun a e => ?_⟩
      cases e
      obtain ⟨o, n, e, c, hd, _⟩ := pl
      exact ⟨o, e, hd⟩
    · refine ⟨⟨o, I.kIn p o hk, hc⟩, fun a e => ?_⟩
      cases e
      exact ⟨o, I.kIn _ o hk, hd⟩
    · have z : ∃ o, s.heap.get? p = some o ∧ o.ExactDict := by
        rcases hk with ⟨kvs, hk⟩ | ⟨kvs, hk⟩
        · obtain ⟨_, _, _, _, o, _, _, e, ex, _⟩ := I.hok p _ hk
          exact ⟨o, e, ex⟩
        · obtain ⟨_, _, _, _, o, _, _, e, ex, _⟩ := I.hok p _ hk
          exact ⟨o, e, ex⟩
      obtain ⟨o, e, ex⟩ := z
      refine ⟨⟨o, e, ex.1⟩, fun a e2 => ?_⟩
      cases e2
      exact ⟨o, e, ex.2.1⟩
    · obtain ⟨o, _, _, _, e, ex, _⟩ := I.hok p _ hk
      refine ⟨⟨o, e, ex.1⟩, fun a e2 => ?_⟩
      cases e2
      exact ⟨o, e, ex.2.1⟩
  | _ => exact False.elim ty
def tBM0 (K : PySem.W.Frag) (T : String) (r : V → List V → Hp → VK → Prop) (to : TE) : TE := fun σ H Q => to σ H fun x H1 => tyV K T x H1 ∧ r x [] H1 Q
def tBM (K : PySem.W.Frag) (T : String) (r : V → List V → Hp → VK → Prop) (to : TE) (t : TA) : TE := fun σ H Q => to σ H fun x H1 => tyV K T x H1 ∧ t σ H1 fun xs H2 => r x xs H2 Q
variable {o e : Expr} {es : List Expr} {to : TE} {t : TA} {name : Str} {apos cpos : Pos} {T id : String} {r : V → List V → Hp → VK → Prop}
theorem pe_bm0 (pa : PlainAttrs T) (slot : Slot T name id) (hty : typeOf (.builtin id) = pure (.type "method_descriptor")) (hm : MtR X id r) (ho : PE X o to)
    (hbase : attributeBase o name X.env (eval o X.env) = eval o X.env := by rfl) (hline : (apos.endLine == cpos.line) = true := by rfl) : PE X (.Call (.Attribute o name apos) [] [] cpos) (tBM0 X.K T r to) := by
  intro pins s σ H Q I h
  refine wpAny_Call_method0_late hbase hline (thn (ho pins s σ H _ I h) fun v s1 ⟨x, H1, I1, r1, ty, q1⟩ => ?_)
  obtain ⟨h1, h2⟩ := tyV_is I1 r1 ty
  exact ⟨T, id, pa, slot, hty, h1, h2, Calls.callWith_builtin rfl (PySem.evalArgs_none (hm pins s1 σ H1 x [] v [] Q I1 r1 .nil q1))⟩
theorem pe_bm (pa : PlainAttrs T) (slot : Slot T name id) (hty : typeOf (.builtin id) = pure (.type "method_descriptor")) (hm : MtR X id r) (ho : PE X o to) (ha : PA X (e :: es) t)
    (hbase : attributeBase o name X.env (eval o X.env) = eval o X.env := by rfl)
    (hfew : ((backTo cpos (starEach (e :: es) X.env)).all (fun x => !x.1) && (backToKw cpos (keywordEach [] X.env)).all (fun x => x.1.isSome)
      && decide ((e :: es).length + ([] : List Keyword).length + (if ([] : List Keyword).isEmpty then 0 else 1) < 30)) = true := by rfl)
    (hline : (apos.endLine == cpos.line) = true := by rfl) (hs : starEach (e :: es) X.env = (false, eval e X.env) :: starEach es X.env := by rfl) (hplain : (backTo cpos (starEach es X.env)).any (·.1) = false := by rfl) :
    PE X (.Call (.Attribute o name apos) (e :: es) [] cpos) (tBM X.K T r to t) := by
  intro pins s σ H Q I h
  refine wpAny_Call_method_late hbase hfew hline rfl (thn (ho pins s σ H _ I h) fun v s1 ⟨x, H1, I1, r1, ty, q1⟩ => ?_)
  obtain ⟨h1, h2⟩ := tyV_is I1 r1 ty
  refine ⟨T, id, pa, slot, hty, h1, h2, ?_⟩
  have hA := ha cpos pins s1 σ H1 _ I1 q1
  rw [hs] at hA ⊢
  refine Calls.callWith_builtin (by show (false || (backTo cpos (starEach es X.env)).any (·.1)) = false; rw [hplain] <;> rfl) (Calls.evalArgs_plain ?_)
  exact thn hA fun us s2 ⟨vs, H2, I2, r2, q2⟩ => hm pins s2 σ H2 x vs v us Q I2 r1 r2 q2
/- xs.append(e), list.index on a module's tuple .. are MtR facts of 06m -/
end
end L2
namespace L2
open PySem PySem.Spec PyProof.Rows
def MtM (X : Cx) (id : String) (r : V → List V → Hp → VK → Prop) : Prop :=
  ∀ (pins : List (Addr × Obj)) (s : Shared) (σ : St) (H : Hp) (x : V) (xs : List V) (v : Value) (us : List Value) (Q : VK), Inv X pins σ H s → RelV x v → Vals xs us → r x xs H Q →
    wpAny (model X.prog X.w) X.A (call (.builtin id) (v :: us)) (EP X pins σ Q) X.xe s
/-! ### lists of values -/
theorem Vals.one : ∀ {x : V} {us : List Value}, Vals [x] us → ∃ u, us = [u] ∧ RelV x u
  | _, _, .cons r .nil => ⟨_, rfl, r⟩
theorem Vals.zero : ∀ {us : List Value}, Vals [] us → us = []
  | _, .nil => rfl
theorem Vals.dropLast {xs : List V} {us : List Value} (h : Vals xs us) : Vals xs.dropLast us.dropLast := by
  induction h with
  | nil => exact .nil
  | cons r t ih =>
    cases t with
    | nil => exact .nil
    | cons q t' => exact .cons r ih
theorem Vals.rep {xs : List V} {us : List Value} (h : Vals xs us) : ∀ k : Nat, Vals (List.replicate k xs).flatten (List.replicate k us).flatten
  | 0 => .nil
  | k + 1 => by
    rw [List.replicate_succ, List.replicate_succ, List.flatten_cons, List.flatten_cons]
    exact Vals.append h (Vals.rep h k)
theorem erase_last {α : Type} (l : List α) : l.eraseIdx (l.length - 1) = l.dropLast := by
  induction l with
  | nil => rfl
  | cons a r ih =>
    cases r with
    | nil => rfl
    | cons b r =>
      have e : (a :: b :: r).length - 1 = ((b :: r).length - 1) + 1 := by
        have h1 : (a :: b :: r).length = r.length + 2 := rfl
        have h2 : (b :: r).length = r.length + 1 := rfl
        omega
      rw [e, List.eraseIdx_cons_succ, ih]
      all_goals rfl
theorem foldl_rep (its : List Value) : ∀ (k : Nat) (acc : List Value),
    List.foldl (fun x1 x2 => x1 ++ x2) acc.toArray (List.replicate k its.toArray) = (acc ++ (List.replicate k its).flatten).toArray
  | 0, acc => by simp
  | k + 1, acc => by
    have e : acc.toArray ++ its.toArray = (acc ++ its).toArray := by simp
    have e2 : (acc ++ its) ++ (List.replicate k its).flatten = acc ++ (List.replicate (k + 1) its).flatten := by
      rw [List.replicate_succ, List.flatten_cons, List.append_assoc]
    rw [← e2, ← foldl_rep its k (acc ++ its), ← e, List.replicate_succ, List.foldl_cons]
section
variable {X : Cx} {pins : List (Addr × Obj)} {σ : St} {H : Hp} {s : Shared} {l b : Addr} {xs ys zs : List V}
/-! ### the two steps: a tracked list is rewritten, a new list is laid -/
theorem Inv.lset {its its' : List Value} {n : Nat} {f : Array Value → Array Value} {t' : Nat} (I : Inv X pins σ H s) (hH : H l = some (.lst xs))
    (e : s.heap.get? l = some { cls := .type "list", data := .seq its.toArray n }) (hf : f its.toArray = its'.toArray) (hv : Vals ys its') (hz : ys.length ≤ sizeLine) :
    Inv X pins σ (upd H l (.lst ys)) { s with heap := s.heap.update l (Obj.mapSeq f), toks := t' } := by
  have q := PySem.IsL.update e f
  rw [hf] at q
  refine I.write (x := l) (e := l) (by rw [hH]; exact trivial) (.inl rfl) (fun b' u hb hu => (Heap.get?_update_other s.heap (Obj.mapSeq f) (Ne.symm hb)).trans hu) ⟨_, q⟩ ?_
  exact ⟨hz, its', _, hv, q⟩
theorem Inv.lnew {its : List Value} {t' : Nat} (I : Inv X pins σ H s) (hv : Vals ys its) (hz : ys.length ≤ sizeLine) :
    Inv X pins σ (upd H s.heap.objs.size (.lst ys)) { s with heap := s.heap.push { cls := .type "list", data := .seq its.toArray }, toks := t' } :=
  I.laid (fun _ _ q => Heap.get?_push_of_some _ q) (Nat.le_refl _) ⟨hz, its, 0, hv, Heap.get?_push_size _ rfl⟩
theorem Inv.fresh (I : Inv X pins σ H s) : H s.heap.objs.size = none := I.hok.fresh (Nat.le_refl _)
theorem Inv.lstM (I : Inv X pins σ H s) (hH : H l = some (.lst xs)) : xs.length ≤ sizeLine ∧ ∃ (its : List Value) (n : Nat), Vals xs its ∧ xs.length = its.length ∧ s.heap.get? l = some { cls := .type "list", data := .seq its.toArray n } := by
  obtain ⟨z, its, n, r, e⟩ := I.hok l _ hH
  exact ⟨z, its, n, r, r.length, e⟩
theorem notLongL {n : Nat} (h : n ≤ sizeLine) : Builtin.List.listTooLong n = false := by
  unfold Builtin.List.listTooLong
  exact decide_eq_false (by omega)
end
section
variable {X : Cx}
/-! ### methods -/
def rAppend : V → List V → Hp → VK → Prop := fun x vs H Q => ∃ l xs y, x = .ref l ∧ vs = [y] ∧ H l = some (.lst xs) ∧ xs.length < sizeLine ∧ Q .non (upd H l (.lst (xs ++ [y])))
theorem mt_append : MtM X "list.append" rAppend := by
  intro pins s σ H x vs v us Q I rx rv h
  obtain ⟨l, xs, y, rfl, rfl, hH, hz, q⟩ := h
  cases rx
  obtain ⟨u, rfl, ru⟩ := rv.one
  obtain ⟨z, its, n, r, hl, e⟩ := I.lstM hH
  refine call_meets F.slot_list_append ⟨_, e, rfl⟩ F.entry_list_append (F.args_list_append_2 _ _) (PySem.list_append l its.toArray n u (by rw [List.size_toArray]; omega)) ⟨e, ?_⟩
  refine ⟨.non, _, I.lset (its' := its ++ [u]) hH e (by simp) (r.append (.cons ru .nil)) ?_, rfl, q⟩
  rw [List.length_append, List.length_singleton]
  omega
def rExtend : V → List V → Hp → VK → Prop := fun x vs H Q => ∃ l b xs zs, x = .ref l ∧ vs = [.ref b] ∧ H l = some (.lst xs) ∧ H b = some (.lst zs) ∧ xs.length + zs.length ≤ sizeLine ∧ Q .non (upd H l (.lst (xs ++ zs)))
theorem mt_extend : MtM X "list.extend" rExtend := by
  intro pins s σ H x vs v us Q I rx rv h
  obtain ⟨l, b, xs, zs, rfl, rfl, hH, hB, hz, q⟩ := h
  cases rx
  obtain ⟨u, rfl, ru⟩ := rv.one
  cases ru
  obtain ⟨z, its, n, r, hl, e⟩ := I.lstM hH
  obtain ⟨z2, its2, n2, r2, hl2, e2⟩ := I.lstM hB
  have hsz : its.toArray.size + its2.toArray.size ≤ sizeLine := by rw [List.size_toArray, List.size_toArray]; omega
  have hlong : ¬ (!its.toArray.isEmpty && Builtin.List.listTooLong (its.toArray.size + its2.toArray.size)) = true := by
    rw [notLongL hsz, Bool.and_false]
    exact Bool.false_ne_true
  refine call_meets F.slot_list_extend ⟨_, e, rfl⟩ F.entry_list_extend (F.args_list_extend_2 _ _)
    (AutoSeq1.list_extend_list_list_0 l its.toArray n b its2.toArray n2 hlong (by rw [List.size_toArray]; omega) (by omega)) ⟨e, e2, ?_⟩
  refine ⟨.non, _, I.lset (its' := its ++ its2) hH e (by simp) (r.append r2) ?_, rfl, q⟩
  rw [List.length_append]
  omega
def rPop : V → List V → Hp → VK → Prop := fun x vs H Q => ∃ l xs y, x = .ref l ∧ vs = [] ∧ H l = some (.lst xs) ∧ xs[xs.length - 1]? = some y ∧ Q y (upd H l (.lst xs.dropLast))
theorem mt_pop : MtM X "list.pop" rPop := by
  intro pins s σ H x vs v us Q I rx rv h
  obtain ⟨l, xs, y, rfl, rfl, hH, hy, q⟩ := h
  cases rx
  have hus := rv.zero
  subst hus
  obtain ⟨z, its, n, r, hl, e⟩ := I.lstM hH
  obtain ⟨u, hu, ru⟩ := r.get hy
  have hy' : its.toArray[its.toArray.size - 1]? = some u := by
    show its.toArray[its.length - 1]? = some u
    rw [← Array.getElem?_toList, ← hl]
    exact hu
  refine call_meets F.slot_list_pop ⟨_, e, rfl⟩ F.entry_list_pop (F.args_list_pop_1 _) (MeetsSeq.list_pop_last l its.toArray n u hy' (by rw [List.size_toArray]; omega)) ⟨e, ?_⟩
  refine ⟨y, _, I.lset (its' := its.dropLast) hH e ?_ r.dropLast ?_, ru, q⟩
  · show its.toArray.eraseIdxIfInBounds (its.toArray.size - 1) = its.dropLast.toArray
    rw [List.size_toArray, List.eraseIdxIfInBounds_toArray, erase_last]
  · rw [List.length_dropLast]
    omega
def rPopAt : V → List V → Hp → VK → Prop := fun x vs H Q => ∃ l xs i k y, x = .ref l ∧ vs = [.int i] ∧ H l = some (.lst xs) ∧ -(2 ^ 63) ≤ i ∧ i < 2 ^ 63 ∧ seqIndex? i xs.length = some k ∧ xs[k]? = some y ∧ Q y (upd H l (.lst (xs.eraseIdx k)))
def rReverse : V → List V → Hp → VK → Prop := fun x vs H Q => ∃ l xs, x = .ref l ∧ vs = [] ∧ H l = some (.lst xs) ∧ Q .non (upd H l (.lst xs.reverse))
def rClear : V → List V → Hp → VK → Prop := fun x vs H Q => ∃ l xs, x = .ref l ∧ vs = [] ∧ H l = some (.lst xs) ∧ Q .non (upd H l (.lst []))
/-! ### list + list, list += list, list * int -/
def rCat : R2 := fun x y H Q => ∃ l b xs zs, x = .ref l ∧ y = .ref b ∧ H l = some (.lst xs) ∧ H b = some (.lst zs) ∧ xs.length + zs.length ≤ sizeLine ∧ ∀ p, H p = none → Q (.ref p) (upd H p (.lst (xs ++ zs)))
theorem op_cat : OpR X (binaryOp .Add) rCat := by
  intro pins s σ H x y v u Q I rx ry h
  obtain ⟨l, b, xs, zs, rfl, rfl, hH, hB, hz, q⟩ := h
  cases rx
  cases ry
  obtain ⟨z, its, n, r, hl, e⟩ := I.lstM hH
  obtain ⟨z2, its2, n2, r2, hl2, e2⟩ := I.lstM hB
  refine PySem.P.add_list e e2 ?_ (by rw [List.size_toArray, List.size_toArray]; omega)
  have ea : its.toArray ++ its2.toArray = (its ++ its2).toArray := by simp
  rw [ea]
  exact ⟨.ref _, _, I.lnew (t' := s.toks) (r.append r2) (by rw [List.length_append]; omega), rfl, q _ I.fresh⟩
/-- a list times an int (a negative one is nothing) -/
def rRep : R2 := fun x y H Q => ∃ l k xs, x = .ref l ∧ y = .int k ∧ H l = some (.lst xs) ∧ -(2 ^ 63) ≤ k ∧ k < 2 ^ 63 ∧ xs.length * k.toNat ≤ sizeLine ∧
  ∀ p, H p = none → Q (.ref p) (upd H p (.lst (List.replicate k.toNat xs).flatten))
theorem len_rep {α : Type} (xs : List α) (k : Nat) : (List.replicate k xs).flatten.length = k * xs.length := by
  induction k with
  | zero => simp
  | succ k ih => rw [List.replicate_succ, List.flatten_cons, List.length_append, ih, Nat.succ_mul, Nat.add_comm]
theorem op_rep : OpR X (binaryOp .Mult) rRep := by
  intro pins s σ H x y v u Q I rx ry h
  obtain ⟨l, k, xs, rfl, rfl, hH, h1, h2, hz, q⟩ := h
  cases rx
  obtain ⟨t, rfl⟩ := ry
  obtain ⟨z, its, n, r, hl, e⟩ := I.lstM hH
  have hlen : its.toArray.size * k.toNat ≤ sizeLine := by rw [List.size_toArray, ← hl]; exact hz
  have hcap : ¬ its.toArray.size * k.toNat > (2 ^ 63 - 1) / 8 := by
    have : (sizeLine : Nat) ≤ (2 ^ 63 - 1) / 8 := by decide
    omega
  have hfit : ¬ (!Builtin.List.listFitsIndex k) = true := by
    rw [fitsIndex_both h1 h2]
    exact Bool.false_ne_true
  have hlong : ¬ Builtin.List.listTooLong (its.toArray.size * k.toNat) = true := by
    rw [notLongL hlen]
    exact Bool.false_ne_true
  have hnew : List.foldl (fun x1 x2 => x1 ++ x2) #[] (List.replicate (if its.toArray.isEmpty = true then 0 else k.toNat) its.toArray) = (List.replicate k.toNat its).flatten.toArray := by
    have f0 : ∀ m : Nat, List.foldl (fun x1 x2 => x1 ++ x2) #[] (List.replicate m its.toArray) = (List.replicate m its).flatten.toArray := fun m => by
      have := foldl_rep its m []
      rw [List.nil_append] at this
      exact this
    rw [f0]
    cases its with
    | nil => simp
    | cons a r' => rw [if_neg (by simp)]
  refine wpAny_binaryOp_repeat_ref (T := "list") (U := "int") (by decide) ⟨_, e, rfl⟩ (fun s' => typeIs_int s' k t) noFill_list_mul F.fills_int_mul F.slot_int_rmul repeat_list F.slot_int_index.lookup
    (call_meets F.slot_int_rmul (typeIs_int s k t) F.entry_int_rmul (F.args_int_rmul_2 _ _) (int___rmul___int_list k t l its.toArray n)
      ⟨e, rfl, ⟨_, e, rfl⟩, call_meets F.slot_list_mul ⟨_, e, rfl⟩ F.entry_list_mul (F.args_list_mul_2 _ _) (AutoListH.list___mul___list_int_3 l its.toArray n k t hfit hcap hlong) ⟨e, ?_⟩⟩)
  rw [hnew]
  exact ⟨.ref _, _, I.lnew (t' := s.toks) (r.rep k.toNat) (by rw [len_rep, Nat.mul_comm]; exact hz), rfl, q _ I.fresh⟩
/-! ### del xs[i] -/
end
/-! ### xs[a:b] = ys -/
section
variable {prog : Program} {w : World} {A : Around} {E : Value → Shared → Prop} {s : Shared}
set_option maxRecDepth 100000 in
end
section
variable {X : Cx}
end
end L2
namespace L2
open PySem PySem.Spec PyProof.Rows
theorem Vals.ints : ∀ {ns : List Int} {us : List Value}, Vals (ns.map V.int) us → IntsAre us ns
  | [], us, h => by
    rw [List.map_nil] at h
    cases h
    exact IntsAre.nil
  | n :: ns, us, h => by
    rw [List.map_cons] at h
    cases h with
    | cons r t =>
      obtain ⟨k, rfl⟩ := r
      exact IntsAre.cons n k (Vals.ints t)
theorem Vals.ref1 {a : Addr} {us : List Value} (r : Vals [V.ref a] us) : us = [Value.ref a] := by
  cases r with
  | cons r t =>
    cases t
    cases r
    rfl
/-! ### the library's walks over a list of ints, kept objects alone -/
section
variable {prog : Program} {w : World} {A : Around} {E : Value → Shared → Prop} {s : Shared} {l : Addr} {its : List Value} {ns : List Int} {Q : Value → Shared → Prop}
theorem sum_raw (hh : A.handled = none) (hl : s.heap.IsList l its.toArray) (hi : IntsAre its ns)
    (h : ∀ h' tk t', (∀ b o, s.heap.get? b = some o → h'.get? b = some o) → Q (.int ns.sum t') { s with heap := h', toks := tk }) : wpAny (model prog w) A (call (.builtin "sum") [.ref l]) Q E s := by
  obtain ⟨xs, e⟩ := hi.allInts.items
  have hn : numsOf (intItems xs).toList = ns := by rw [← e]; exact hi.numsOf
  rw [nums_intItems] at hn
  rw [e] at hl
  refine PySem.sum_intListG hh hl fun h' tk t' hk => ?_
  have := h h' tk t' hk
  rw [preSum_eq, List.take_of_length_le (by simp), hn]; exact this
end
/-! ### the calls, by values (CallR of 03t; MtR of 06l) -/
section
variable {X : Cx}
/-- sum(xs) of a list of ints -/
def rSum (K : PySem.W.Frag) : List V → Hp → VK → Prop := fun vs H Q => ∃ (a : Addr) (ns : List Int), vs = [V.ref a] ∧ SqL K H a (ns.map V.int) ∧ Q (.int ns.sum) H
/-- max(xs), min(xs) of a list of ints -/
def rMax (K : PySem.W.Frag) : List V → Hp → VK → Prop := fun vs H Q => ∃ (a : Addr) (ns : List Int), vs = [V.ref a] ∧ SqL K H a (ns.map V.int) ∧ 0 < ns.length ∧ ∀ m, m ∈ ns → (∀ y, y ∈ ns → y ≤ m) → Q (.int m) H
def rMin (K : PySem.W.Frag) : List V → Hp → VK → Prop := fun vs H Q => ∃ (a : Addr) (ns : List Int), vs = [V.ref a] ∧ SqL K H a (ns.map V.int) ∧ 0 < ns.length ∧ ∀ m, m ∈ ns → (∀ y, y ∈ ns → m ≤ y) → Q (.int m) H
theorem cr_sum (hc : X.calm = true) : CallR X (.builtin "sum") (rSum X.K) := by
  intro pins s σ H vs us Q I r h
  obtain ⟨a, ns, rfl, hs, q⟩ := h
  obtain ⟨its, rv, hl, _⟩ := I.list hs
  rw [Vals.ref1 r]
  exact sum_raw (I.ok.hd hc) hl.isList rv.ints fun h' tk t' hk => ⟨.int _, H, I.kept hk, ⟨_, rfl⟩, q⟩
/-! sorted, sort (fewer than 64 items: the library's own bound) -/
def rSorted (K : PySem.W.Frag) : List V → Hp → VK → Prop := fun vs H Q => ∃ (a : Addr) (ns : List Int), vs = [V.ref a] ∧ SqL K H a (ns.map V.int) ∧ ns.length < 64 ∧
  ∀ (ns' : List Int) (p : Addr), ns'.Perm ns → ns'.Pairwise (· ≤ ·) → H p = none → Q (.ref p) (upd H p (.lst (ns'.map V.int)))
def rSortedS (K : PySem.W.Frag) : List V → Hp → VK → Prop := fun vs H Q => ∃ (a : Addr) (xs : List Str), vs = [V.ref a] ∧ SqL K H a (xs.map V.str) ∧ xs.length < 64 ∧
  ∀ (ys : List Str) (p : Addr), ys.Perm xs → sortedS ys = true → H p = none → Q (.ref p) (upd H p (.lst (ys.map V.str)))
/-- xs.sort(), ints -/
def rSort : V → List V → Hp → VK → Prop := fun x xs H Q => ∃ (a : Addr) (ns : List Int), x = V.ref a ∧ xs = [] ∧ H a = some (.lst (ns.map V.int)) ∧ ns.length < 64 ∧
  ∀ ns' : List Int, ns'.Perm ns → ns'.Pairwise (· ≤ ·) → Q .non (upd H a (.lst (ns'.map V.int)))
end
/-! ### list.index, flat items -/
section
variable {X : Cx}
def rIndex (K : PySem.W.Frag) : V → List V → Hp → VK → Prop := fun x xs H Q => ∃ (a : Addr) (ys : List V) (y : V) (j : Nat) (z : V), x = V.ref a ∧ xs = [y] ∧ SqL K H a ys ∧ flatV y = true ∧ ys.all flatV = true ∧ ys[j]? = some z ∧ eqV z y = true ∧
  (∀ (m : Nat) (z' : V), m < j → ys[m]? = some z' → eqV z' y = false) ∧ Q (.int (j : Nat)) H
theorem flat_at {ys : List V} (f : ys.all flatV = true) {j : Nat} {z : V} (h : ys[j]? = some z) : flatV z = true := List.all_eq_true.mp f z (List.mem_of_getElem? h)
theorem mt_index : MtR X "list.index" (rIndex X.K) := by
  intro pins s σ H x xs v us Q I rx rxs h
  obtain ⟨a, ys, y, j, z, rfl, rfl, hs, fy, fys, hz, hzj, hno, q⟩ := h
  cases rx
  cases rxs with
  | cons ry rt =>
    rename_i uy ut
    cases rt
    obtain ⟨its, rv, ⟨⟨cls, dd, data, sl⟩, n, ho, hc, hdn, hd⟩, hlen⟩ := I.list hs
    simp only at hc hd
    subst hc hd
    obtain ⟨u, hu, ru⟩ := rv.get hz
    obtain ⟨hjl, hje⟩ := List.getElem?_eq_some_iff.mp hu
    have hvl := rv.length
    have hj : j < its.toArray.size := by simpa using hjl
    have hsl := sizeLine_eq
    refine call_meets PySem.F.slot_list_index ⟨_, ho, rfl⟩ PySem.F.entry_list_index (PySem.F.args_list_index_2 _ _)
      (SeqAt.list_indexAt a its.toArray n dd sl uy (eqU y) j hj (by omega) ?_ ?_) ⟨ho, fun u' hu' => mem_eqAt ry fy rv fys u' (by simpa using hu'), ?_⟩
    · have e1 : its.toArray[j] = u := by simpa using hje
      rw [e1, eqU_of ru (flat_at fys hz)]
      exact hzj
    · intro m hm hmj
      have hml : m < its.length := by simpa using hm
      have hmy : m < ys.length := by omega
      have hy' : ys[m]? = some ys[m] := List.getElem?_eq_getElem hmy
      obtain ⟨u2, hu2, ru2⟩ := rv.get hy'
      obtain ⟨_, hme⟩ := List.getElem?_eq_some_iff.mp hu2
      have e1 : its.toArray[m] = u2 := by simpa using hme
      rw [e1, eqU_of ru2 (flat_at fys hy')]
      exact hno m _ hmj hy'
    · exact ⟨.int (j : Nat), H, I.tok _, ⟨_, rfl⟩, q⟩
end
/-! ### type(x) of an own instance; is, is not of a module's class -/
section
variable {X : Cx}
end
/-! ### any(xs), all(xs) of a list of bools -/
section
variable {X : Cx}
def rAny (K : PySem.W.Frag) : List V → Hp → VK → Prop := fun vs H Q => ∃ (a : Addr) (bs : List Bool), vs = [V.ref a] ∧ SqL K H a (bs.map V.bl) ∧ Q (.bl (bs.any id)) H
def rAll (K : PySem.W.Frag) : List V → Hp → VK → Prop := fun vs H Q => ∃ (a : Addr) (bs : List Bool), vs = [V.ref a] ∧ SqL K H a (bs.map V.bl) ∧ Q (.bl (bs.all id)) H
end
/-! ### == and != of data at any depth: none, bools, ints, texts, lists, tuples -/
mutual
inductive Dp (K : PySem.W.Frag) (H : Hp) : V → PyData → Prop
  | non : Dp K H .non .none
  | bl (b : Bool) : Dp K H (.bl b) (.bool b)
  | int (i : Int) : Dp K H (.int i) (.int i)
  | str (x : Str) : Dp K H (.str x) (.str x)
  | lst {a : Addr} {xs : List V} {ds : List PyData} : SqL K H a xs → DpAll K H xs ds → Dp K H (.ref a) (.list ds)
  | tup {a : Addr} {xs : List V} {ds : List PyData} : SqT K H a xs → DpAll K H xs ds → Dp K H (.ref a) (.tuple ds)
inductive DpAll (K : PySem.W.Frag) (H : Hp) : List V → List PyData → Prop
  | nil : DpAll K H [] []
  | cons {v : V} {vs : List V} {d : PyData} {ds : List PyData} : Dp K H v d → DpAll K H vs ds → DpAll K H (v :: vs) (d :: ds)
end
section
variable {X : Cx} {pins : List (Addr × Obj)} {σ : St} {H : Hp} {s : Shared}
end
section
variable {X : Cx}
def rEqD (K : PySem.W.Frag) : R2 := fun x y H Q => ∃ d e, Dp K H x d ∧ Dp K H y e ∧ SeqAt.shaped d = true ∧ SeqAt.shaped e = true ∧ Q (.bl (PyData.eqv d e)) H
def rNeD (K : PySem.W.Frag) : R2 := fun x y H Q => ∃ d e, Dp K H x d ∧ Dp K H y e ∧ SeqAt.shaped d = true ∧ SeqAt.shaped e = true ∧ Q (.bl (!PyData.eqv d e)) H
end
end L2
namespace L2
open PySem PySem.Spec PyProof.Rows
abbrev CellAt (h : Heap) (c : Addr) (v : Option Value) : Prop := h.IsCell c v
def relS (scope sc : Scope) : Scope :=
  { scope with names := scope.names.map fun (n, k) => if (k == .free && sc.kind == .function && sc.names.lookup n == some .cell) then (n, .cell) else (n, k) }
def cloFrom (cells : List (Str × Addr)) : List (Str × NameKind) → List (Str × Addr) → List (Str × Addr)
  | [], acc => acc
  | (n, k) :: r, acc => if k == .free then cloFrom cells r ((n, (cells.lookup n).getD 0) :: acc) else cloFrom cells r acc
theorem closure_loop (env : Env) (f : Str × NameKind → List (Str × Addr) → Sem (ForInStep (List (Str × Addr))))
    (hf : ∀ n k c, f (n, k) c = if k == .free then (do let a ← cellOf env n; pure (.yield ((n, a) :: c))) else pure (.yield c)) :
    ∀ (names : List (Str × NameKind)) (acc : List (Str × Addr)), (∀ y ∈ names, y.2 = .free → ∃ c, env.cells.lookup y.1 = some c) → forIn names acc f = pure (cloFrom env.cells names acc)
  | [], acc, _ => by rw [List.forIn_nil]; rfl
  | (n, k) :: r, acc, h => by
    rw [List.forIn_cons, hf]
    have ih := fun acc => closure_loop env f hf r acc fun y hy => h y (List.mem_cons_of_mem _ hy)
    unfold cloFrom
    by_cases hk : (k == NameKind.free) = true
    · rw [if_pos hk, if_pos hk]
      obtain ⟨c, hc⟩ := h (n, k) List.mem_cons_self (by simpa using hk)
      have e : cellOf env n = pure c := by unfold cellOf; rw [hc]
      rw [e]
      have e2 : (env.cells.lookup n).getD 0 = c := by rw [hc]; rfl
      rw [e2]
      exact ih _
    · rw [if_neg hk, if_neg hk]
      exact ih _
theorem closure_ok {scope : Scope} {env : Env} (h : ∀ y ∈ scope.names, y.2 = .free → ∃ c, env.cells.lookup y.1 = some c) : closureFor scope env = pure (cloFrom env.cells scope.names []) := by
  simp only [closureFor]
  rw [closure_loop env _ (fun n k c => rfl) scope.names [] h]
  rfl
theorem mem_lookup {α : Type} : ∀ {l : List (Str × α)} {n : Str} {c : α}, (n, c) ∈ l → ∃ c', l.lookup n = some c'
  | (k, v) :: r, n, c, h => by
    rw [List.lookup_cons]
    cases hb : n == k with
    | true => exact ⟨_, rfl⟩
    | false =>
      rcases List.mem_cons.mp h with e | h
      · cases e; simp at hb
      · exact mem_lookup h
theorem cloFrom_mem {cells : List (Str × Addr)} : ∀ {names : List (Str × NameKind)} {acc : List (Str × Addr)} {n : Str} {c : Addr}, (n, c) ∈ cloFrom cells names acc → (n, c) ∈ acc ∨ ((n, .free) ∈ names ∧ c = (cells.lookup n).getD 0)
  | [], _, _, _, h => .inl h
  | (m, k) :: r, acc, n, c, h => by
    unfold cloFrom at h
    split at h
    · rename_i hk
      have hk : k = .free := by simpa using hk
      rcases cloFrom_mem h with h | ⟨h1, h2⟩
      · rcases List.mem_cons.mp h with e | h
        · cases e; exact .inr ⟨hk ▸ List.mem_cons_self, rfl⟩
        · exact .inl h
      · exact .inr ⟨List.mem_cons_of_mem _ h1, h2⟩
    · rcases cloFrom_mem h with h | ⟨h1, h2⟩
      · exact .inl h
      · exact .inr ⟨List.mem_cons_of_mem _ h1, h2⟩
theorem cloFrom_acc {cells : List (Str × Addr)} : ∀ {names : List (Str × NameKind)} {acc : List (Str × Addr)} {p : Str × Addr}, p ∈ acc → p ∈ cloFrom cells names acc
  | [], _, _, h => h
  | (m, k) :: r, acc, p, h => by
    unfold cloFrom
    split
    · exact cloFrom_acc (List.mem_cons_of_mem _ h)
    · exact cloFrom_acc h
theorem cloFrom_has {cells : List (Str × Addr)} : ∀ {names : List (Str × NameKind)} {acc : List (Str × Addr)} {n : Str}, (n, .free) ∈ names → (n, (cells.lookup n).getD 0) ∈ cloFrom cells names acc
  | (m, k) :: r, acc, n, h => by
    unfold cloFrom
    rcases List.mem_cons.mp h with e | h
    · cases e
      exact cloFrom_acc List.mem_cons_self
    · split
      · exact cloFrom_has h
      · exact cloFrom_has h
theorem cells_mem : ∀ {names : List (Str × NameKind)} {h : Heap} {acc : List (Str × Addr)} {x : Str} {c : Addr}, (x, c) ∈ cellsFrom h.objs.size names acc →
    (x, c) ∈ acc ∨ ((x, .cell) ∈ names ∧ h.objs.size ≤ c ∧ CellAt (pushCells h names) c none)
  | [], _, _, _, _, h => .inl h
  | (n, k) :: r, h, acc, x, c, hm => by
    unfold cellsFrom at hm
    unfold pushCells
    split at hm
    · rename_i hk
      rw [if_pos hk]
      have hk : k = .cell := by simpa using hk
      rw [← Heap.size_push h { cls := .type "cell", data := .cell none }] at hm
      rcases cells_mem hm with hm | ⟨h1, h2, h3⟩
      · rcases List.mem_cons.mp hm with e | hm
        · cases e
          exact .inr ⟨hk ▸ List.mem_cons_self, Nat.le_refl _, _, pushCells_keeps r _ _ _ (Heap.get?_push_size _ rfl), rfl⟩
        · exact .inl hm
      · rw [Heap.size_push] at h2
        exact .inr ⟨List.mem_cons_of_mem _ h1, Nat.le_of_succ_le h2, h3⟩
    · rename_i hk
      rw [if_neg hk]
      rcases cells_mem hm with hm | ⟨h1, h2, h3⟩
      · exact .inl hm
      · exact .inr ⟨List.mem_cons_of_mem _ h1, h2, h3⟩
theorem cells_acc : ∀ {names : List (Str × NameKind)} {n : Nat} {acc : List (Str × Addr)} {p : Str × Addr}, p ∈ acc → p ∈ cellsFrom n names acc
  | [], _, _, _, h => h
  | (m, k) :: r, n, acc, p, h => by
    unfold cellsFrom
    split
    · exact cells_acc (List.mem_cons_of_mem _ h)
    · exact cells_acc h
theorem cells_has : ∀ {names : List (Str × NameKind)} {n : Nat} {acc : List (Str × Addr)} {x : Str}, (x, .cell) ∈ names → ∃ c, (x, c) ∈ cellsFrom n names acc
  | (m, k) :: r, n, acc, x, h => by
    unfold cellsFrom
    rcases List.mem_cons.mp h with e | h
    · cases e
      exact ⟨n, cells_acc List.mem_cons_self⟩
    · split
      · exact cells_has h
      · exact cells_has h
theorem cells_inj : ∀ {names : List (Str × NameKind)} {h : Heap} {acc : List (Str × Addr)} {x y : Str} {c : Addr}, (∀ p ∈ acc, p.2 < h.objs.size) → (∀ x y c, (x, c) ∈ acc → (y, c) ∈ acc → x = y) →
    (x, c) ∈ cellsFrom h.objs.size names acc → (y, c) ∈ cellsFrom h.objs.size names acc → x = y
  | [], _, _, _, _, _, _, hi, h1, h2 => hi _ _ _ h1 h2
  | (n, k) :: r, h, acc, x, y, c, hl, hi, h1, h2 => by
    unfold cellsFrom at h1 h2
    split at h1
    · rename_i hk
      rw [if_pos hk] at h2
      rw [← Heap.size_push h { cls := .type "cell", data := .cell none }] at h1 h2
      refine cells_inj (h := h.push _) (fun p hp => ?_) (fun x y c a b => ?_) h1 h2
      · rw [Heap.size_push]
        rcases List.mem_cons.mp hp with rfl | hp
        · exact Nat.lt_succ_self _
        · exact Nat.lt_succ_of_lt (hl p hp)
      · rcases List.mem_cons.mp a with e | a <;> rcases List.mem_cons.mp b with e' | b
        · cases e; cases e'; rfl
        · cases e; exact absurd (hl _ b) (Nat.lt_irrefl _)
        · cases e'; exact absurd (hl _ a) (Nat.lt_irrefl _)
        · exact hi _ _ _ a b
    · rename_i hk
      rw [if_neg hk] at h2
      exact cells_inj hl hi h1 h2
theorem newEnv_comp {M : Model} {A : Around} {E : Value → Shared → Prop} {s : Shared} {scope : Scope} {globals : Addr} {closure : List (Str × Addr)} {qual : Str} {func : Option Addr} {code : Value} {around : Env} {builtins : Addr} {Q : Env → Shared → Prop}
    (h : Q (newEnv scope s.heap.objs.size globals (cellsFrom (s.heap.objs.size + 1) scope.names closure) qual func code (some around) builtins)
      { s with heap := pushCells (s.heap.push { cls := .type "dict", data := .dict #[] }) scope.names }) :
    wpAny M A (newFunctionEnv scope globals closure [] qual func code (some around) builtins) Q E s := by
  simp only [newFunctionEnv, Option.isSome_some, if_true]
  refine wpAny_bind (wpAny_alloc ?_)
  refine wpAny_bind (wpAny_layCells _ (fun n k c => rfl) scope.names closure _ _ ?_)
  rw [show ({ s with heap := s.heap.push { cls := .type "dict", data := .dict #[] } } : Shared).heap.objs.size = s.heap.objs.size + 1 from Heap.size_push ..]
  rw [List.forIn_nil]
  exact wpAny_bind (wpAny_pure (wpAny_pure h))
/-- every name of the written scope, in the scope that runs -/
theorem lookup_relS {sc : Scope} : ∀ {names : List (Str × NameKind)} {x : Str} {k : NameKind},
    (names.map fun (n, k) => if (k == NameKind.free && sc.kind == .function && sc.names.lookup n == some .cell) then (n, NameKind.cell) else (n, k)).lookup x = some k →
    ∃ k', names.lookup x = some k' ∧ (k = k' ∨ (k' = .free ∧ k = .cell))
  | [], _, _, h => by simp at h
  | (n, k₀) :: r, x, k, h => by
    have ih := @lookup_relS sc r x k
    have h' : List.lookup x ((if (k₀ == NameKind.free && sc.kind == .function && sc.names.lookup n == some .cell) = true then (n, NameKind.cell) else (n, k₀)) :: (r.map _)) = some k := h
    cases hx : x == n with
    | true =>
      simp only [List.lookup_cons, hx]
      by_cases hc : (k₀ == NameKind.free && sc.kind == .function && sc.names.lookup n == some .cell) = true
      · rw [if_pos hc] at h'
        simp only [List.lookup_cons, hx] at h'
        cases h'
        simp only [Bool.and_eq_true, beq_iff_eq] at hc
        exact ⟨k₀, rfl, .inr ⟨hc.1.1, rfl⟩⟩
      · rw [if_neg hc] at h'
        simp only [List.lookup_cons, hx] at h'
        cases h'
        exact ⟨_, rfl, .inl rfl⟩
    | false =>
      simp only [List.lookup_cons, hx]
      by_cases hc : (k₀ == NameKind.free && sc.kind == .function && sc.names.lookup n == some .cell) = true
      · rw [if_pos hc] at h'
        simp only [List.lookup_cons, hx] at h'
        exact ih h'
      · rw [if_neg hc] at h'
        simp only [List.lookup_cons, hx] at h'
        exact ih h'
/-- the names of a comprehension's block: its own (with their places in N), or captured -/
structure BlkOk (N : List Str) (sc scope : Scope) (own : List (Str × Nat)) : Prop where
  kind : scope.kind = .function
  uniq : ∀ y ∈ scope.names, scope.names.lookup y.1 = some y.2
  ix : ∀ p ∈ own, N[p.2]? = some p.1
  free : ∀ y ∈ scope.names, y.2 = .free → sc.names.lookup y.1 = some .cell ∨ sc.names.lookup y.1 = some .free
  own : ∀ y ∈ scope.names, y.2 = .local ∨ y.2 = .cell → y.1 ∈ own.map (·.1) ∨ y.1 ∉ N
/-- the slots of the block's own names forgotten -/
def wipe (σ : St) : List Nat → St
  | [] => σ
  | v :: vs => (wipe σ vs).set v none
theorem wipe_length (σ : St) : ∀ vs : List Nat, (wipe σ vs).length = σ.length
  | [] => rfl
  | v :: vs => by unfold wipe; rw [List.length_set, wipe_length σ vs]
theorem wipe_some {σ : St} {i : Nat} {x : V} : ∀ {vs : List Nat}, (wipe σ vs)[i]? = some (some x) → σ[i]? = some (some x) ∧ i ∉ vs
  | [], h => ⟨h, by simp⟩
  | v :: vs, h => by
    unfold wipe at h
    by_cases hi : v = i
    · subst hi
      by_cases hv : v < (wipe σ vs).length
      · rw [List.getElem?_set_self hv] at h; cases h
      · rw [List.getElem?_eq_none (by simpa using hv)] at h; cases h
    · rw [List.getElem?_set_ne hi] at h
      obtain ⟨h1, h2⟩ := wipe_some h
      exact ⟨h1, by simp only [List.mem_cons, not_or]; exact ⟨fun e => hi e.symm, h2⟩⟩
/-- the context of a block that starts at s, its iterator's objects at fp -/
abbrev Cx.blk (X : Cx) (s : Shared) (H : Hp) (scope : Scope) (cenv : Env) (fp : List Addr) : Cx := { X with s_0 := s, H_0 := H, env := cenv, outer := X.stack, ex := fp, fn := fun x => scope.names.lookup x == some .cell, pn := [], xe := fun _ _ => False }
section
variable {X : Cx} {pins : List (Addr × Obj)} {σ : St} {H : Hp} {s : Shared}
theorem block_start {scope : Scope} {own : List (Str × Nat)} {fp : List Addr} (I : Inv X pins σ H s) (ok : BlkOk X.N X.env.scope scope own) (hN : X.N.Nodup) (hfp : ∀ b ∈ fp, FpOk X pins H b ∧ b < s.heap.objs.size) :
    Inv (X.blk s H scope (compEnvC scope (cellsFrom (s.heap.objs.size + 1) scope.names (cloFrom X.env.cells scope.names [])) s.heap.objs.size X.env) fp) [] (wipe σ (own.map (·.2))) H { s with heap := pushCells (s.heap.push { cls := .type "dict", data := .dict #[] }) scope.names } := by
  have hfree : ∀ y ∈ scope.names, y.2 = .free → ∃ c, X.env.cells.lookup y.1 = some c := fun y hy e => by
    rcases ok.free y hy e with k | k
    · exact I.ok.has _ (.inl k)
    · exact I.ok.has _ (.inr k)
  generalize hcenv : compEnvC scope (cellsFrom (s.heap.objs.size + 1) scope.names (cloFrom X.env.cells scope.names [])) s.heap.objs.size X.env = cenv
  have kp : ∀ b o, s.heap.get? b = some o → (pushCells (s.heap.push { cls := .type "dict", data := .dict #[] }) scope.names).get? b = some o := fun b o e => pushCells_keeps _ _ _ _ (Heap.get?_push_of_some _ e)
  have hL : cenv.locals = s.heap.objs.size := by rw [← hcenv]; rfl
  have hcl : cenv.cells = cellsFrom (s.heap.objs.size + 1) scope.names (cloFrom X.env.cells scope.names []) := by rw [← hcenv]; rfl
  have hsc : cenv.scope = relS scope X.env.scope := by rw [← hcenv]; rfl
  rw [← Heap.size_push s.heap { cls := .type "dict", data := .dict #[] }] at hcl
  have cm : ∀ {y c}, (y, c) ∈ cloFrom X.env.cells scope.names [] → X.env.cells.lookup y = some c ∧ c < s.heap.objs.size := fun {y c} hm => by
    rcases cloFrom_mem hm with hm | ⟨h1, rfl⟩
    · cases hm
    · obtain ⟨c, hc⟩ := hfree _ h1 rfl
      rw [hc]
      obtain ⟨w, z⟩ := I.cell _ _ hc
      exact ⟨rfl, z.lt⟩
  have mem : ∀ {y c}, cenv.cells.lookup y = some c → (X.env.cells.lookup y = some c ∧ c < s.heap.objs.size) ∨ (s.heap.objs.size + 1 ≤ c ∧ CellAt (pushCells (s.heap.push { cls := .type "dict", data := .dict #[] }) scope.names) c none) := fun {y c} e => by
    rw [hcl] at e
    rcases cells_mem (PySem.mem_of_lookup e) with hm | ⟨_, h2, h3⟩
    · exact .inl (cm hm)
    · rw [Heap.size_push] at h2; exact .inr ⟨h2, h3⟩
  have look : ∀ {y}, scope.names.lookup y = some .free → ∃ c, cenv.cells.lookup y = some c ∧ X.env.cells.lookup y = some c := fun {y} hl => by
    have hy : (y, NameKind.free) ∈ scope.names := PySem.mem_of_lookup hl
    obtain ⟨c', e'⟩ := mem_lookup (cells_acc (names := scope.names) (n := (s.heap.push { cls := .type "dict", data := .dict #[] }).objs.size) (cloFrom_has (cells := X.env.cells) (acc := []) hy))
    rw [← hcl] at e'
    refine ⟨c', e', ?_⟩
    rw [hcl] at e'
    rcases cells_mem (PySem.mem_of_lookup e') with hm | ⟨h1, _, _⟩
    · exact (cm hm).1
    · have := ok.uniq _ h1
      rw [hl] at this; cases this
  have okB : (X.blk s H scope cenv fp).Ok := by
    refine ⟨I.ok.mod, by show cenv.scope.kind = _; rw [hsc]; exact ok.kind, by show cenv.globals = _; rw [← hcenv]; exact I.ok.glob, by show cenv.builtins = _; rw [← hcenv]; exact I.ok.blt, by show s.heap.objs.size ≤ cenv.locals; rw [hL]; exact Nat.le_refl _,
      fun y z c e1 e2 => ?_, fun y hy => ?_, fun y c z e => ?_, I.ok.hd, I.ok.frames, .inl rfl, fun b hb => ⟨?_, fun y c e z => ?_⟩, I.bs, Nat.le_trans I.ok.bsz I.sz, fun b o e hb => ?_, fun b hb z => ?_, I.stack, I.stkFree⟩
    · have e1 : cenv.cells.lookup y = some c := e1
      have e2 : cenv.cells.lookup z = some c := e2
      rw [hcl] at e1 e2
      refine cells_inj (fun p hp => ?_) (fun y z c a b => I.ok.inj y z c (cm a).1 (cm b).1) (PySem.mem_of_lookup e1) (PySem.mem_of_lookup e2)
      rw [Heap.size_push]
      exact Nat.lt_succ_of_lt (cm (y := p.1) (c := p.2) hp).2
    · show ∃ c, cenv.cells.lookup y = some c
      have key : ∀ k, cenv.kindOf y = some k → (k = .cell ∨ k = .free) → ∃ c, cenv.cells.lookup y = some c := fun k hk hk' => by
        unfold Env.kindOf at hk
        rw [hsc] at hk
        obtain ⟨k', e, r⟩ := lookup_relS hk
        have : k' = .cell ∨ k' = .free := by
          rcases r with rfl | ⟨rfl, _⟩
          · exact hk'
          · exact .inr rfl
        rcases this with rfl | rfl
        · obtain ⟨c, hm⟩ := cells_has (n := (s.heap.push { cls := .type "dict", data := .dict #[] }).objs.size) (acc := cloFrom X.env.cells scope.names []) (PySem.mem_of_lookup e)
          obtain ⟨c', e'⟩ := mem_lookup hm
          exact ⟨c', by rw [hcl]; exact e'⟩
        · obtain ⟨c, h1, _⟩ := look e
          exact ⟨c, h1⟩
      rcases hy with hy | hy
      · exact key _ hy (.inl rfl)
      · exact key _ hy (.inr rfl)
    · have z : (scope.names.lookup y == some NameKind.cell) = true := z
      have z : scope.names.lookup y = some .cell := by simpa using z
      have e : cenv.cells.lookup y = some c := e
      rw [hcl] at e
      rcases cells_mem (PySem.mem_of_lookup e) with hm | ⟨_, h2, _⟩
      · rcases cloFrom_mem hm with hm | ⟨h1, _⟩
        · cases hm
        · have q := ok.uniq _ h1
          rw [z] at q; cases q
      · rw [Heap.size_push] at h2
        exact Nat.le_of_succ_le h2
    · show b ≠ cenv.locals
      rw [hL]; exact Nat.ne_of_lt (hfp b hb).2
    · have e : cenv.cells.lookup y = some c := e
      rcases mem e with ⟨h1, _⟩ | ⟨h1, _⟩
      · exact (hfp b hb).1.2.2.2.2.1 y c h1 z
      · have h2 : s.heap.objs.size + 1 ≤ b := by rw [← z]; exact h1
        exact absurd (Nat.lt_of_lt_of_le (hfp b hb).2 (Nat.le_of_succ_le h2)) (Nat.lt_irrefl _)
    · rcases (hfp b hb).1.2.2.2.1 with z | z
      · exact I.ok.noex b o e z
      · exact absurd (Nat.lt_of_lt_of_le (Heap.lt_size e) (Nat.le_trans I.ok.bsz z)) (Nat.lt_irrefl _)
    · rcases List.mem_cons.mp (I.stkSub b z) with z | z
      · exact (hfp b hb).1.2.1 z
      · exact (hfp b hb).1.2.2.1 z
  refine ⟨okB, rfl, I.bare, Un.kept kp, ⟨fun _ => none, ?_, fun i y av e1 e2 e3 => ?_⟩, fun y c e => ?_, ?_, fun y c e => ?_, fun p hp => ?_, I.hok.kept kp, by rw [wipe_length]; exact I.len⟩
  · show Heap.Ns _ cenv.locals _
    rw [hL]
    exact Heap.Ns.keeps (Heap.Ns.new ..) fun b o e => pushCells_keeps _ _ _ _ e
  · obtain ⟨e2, hne⟩ := wipe_some e2
    have hfr : scope.names.lookup y = some .free ∧ (cenv.kindOf y = some .cell ∨ cenv.kindOf y = some .free) := by
      have key : ∀ k, cenv.scope.names.lookup y = some k → k = .local ∨ k = .cell ∨ k = .free → scope.names.lookup y = some .free ∧ (cenv.kindOf y = some .cell ∨ cenv.kindOf y = some .free) := fun k hk hk' => by
        have hk0 := hk
        rw [hsc] at hk
        obtain ⟨k', e, r⟩ := lookup_relS hk
        have no : ¬ (k' = .local ∨ k' = .cell) := fun hh => by
          rcases ok.own _ (PySem.mem_of_lookup e) hh with e' | e'
          · obtain ⟨p, hp, hpy⟩ := List.mem_map.mp e'
            have e3 := ok.ix p hp
            have : p.1 = y := hpy
            rw [this] at e3
            exact hne (List.mem_map.mpr ⟨p, hp, nodup_ix hN e3 e1⟩)
          · exact e' (List.mem_of_getElem? e1)
        rcases r with rfl | ⟨rfl, rfl⟩
        · rcases hk' with rfl | rfl | rfl
          · exact absurd (.inl rfl) no
          · exact absurd (.inr rfl) no
          · exact ⟨e, .inr hk0⟩
        · exact ⟨e, .inl hk0⟩
      have e3 : Vis cenv.scope y := e3
      rcases e3 with e3 | e3 | e3
      · exact key _ e3 (.inl rfl)
      · exact key _ e3 (.inr (.inl rfl))
      · exact key _ e3 (.inr (.inr rfl))
    obtain ⟨m, hn, hl⟩ := I.loc
    have hvis : Vis X.env.scope y := (ok.free _ (PySem.mem_of_lookup hfr.1) rfl).elim (fun k => .inr (.inl k)) (fun k => .inr (.inr k))
    obtain ⟨w, r, q⟩ := hl i y av e1 e2 hvis
    refine ⟨w, r, .inr ⟨hfr.2, ?_⟩⟩
    obtain ⟨c, h1, h2⟩ := look hfr.1
    rcases q with ⟨k, _⟩ | ⟨_, c', e', z⟩
    · have k : X.env.scope.names.lookup y = some .local := k
      rcases ok.free _ (PySem.mem_of_lookup hfr.1) rfl with k' | k' <;> rw [show X.env.scope.names.lookup y = _ from k'] at k <;> cases k
    · rw [h2] at e'; cases e'
      exact ⟨c, h1, z.keeps kp⟩
  · have e : cenv.cells.lookup y = some c := e
    rcases mem e with ⟨h1, _⟩ | ⟨_, z⟩
    · obtain ⟨w, z⟩ := I.cell y c h1
      exact ⟨w, z.keeps kp⟩
    · exact ⟨_, z⟩
  · show H cenv.locals = none
    rw [hL]; exact I.hok.fresh (Nat.le_refl _)
  · have e : cenv.cells.lookup y = some c := e
    rcases mem e with ⟨h1, _⟩ | ⟨h1, _⟩
    · exact I.freeC y c h1
    · exact I.hok.fresh (Nat.le_of_succ_le h1)
  · exact absurd (show p ∈ ([] : List (Addr × Obj)) ++ [] from hp) (by simp)
/-- an item appended to a tracked list -/
theorem app_ok {E : Value → Shared → Prop} {D : Addr} {xs : List V} {y : V} {v : Value} {Q : Value → Shared → Prop} (I : Inv X pins σ H s) (hD : H D = some (.lst xs)) (hz : xs.length < sizeLine) (r : RelV y v)
    (h : ∀ s', Inv X pins σ (upd H D (.lst (xs ++ [y]))) s' → Q .none s') : wpAny (model X.prog X.w) X.A (call (.builtin "list.append") [.ref D, v]) Q E s := by
  obtain ⟨hz', its, n, ri, e⟩ := I.hok D _ hD
  have hl := ri.length
  refine append_at (hsz := by rw [List.size_toArray]; omega) e fun h' sb ho' => ?_
  refine h { s with heap := h' } (I.write (t' := s.toks) (by rw [hD]; trivial) (.inl rfl) (fun b u hb q => (sb.2 b hb).trans q) ⟨_, ho'⟩ ⟨by rw [List.length_append]; exact hz, its ++ [v], n + 1, ri.append (.cons r .nil), ?_⟩)
  rw [ho']
  simp
/-- a clause's tests -/
def PTs (X : Cx) (ifs : List Expr) (t : TT) : Prop :=
  ∀ (pins : List (Addr × Obj)) (s : Shared) (σ : St) (H : Hp) (Q : Bool → Hp → Prop), Inv X pins σ H s → t σ H Q →
    wpAny (model X.prog X.w) X.A (forIn ifs true fun c r => if r = true then do let ok ← isTrue c X.env (eval c X.env); pure (ForInStep.yield ok) else pure (ForInStep.yield r)) (TP X pins σ Q) X.xe s
def tYes : TT := fun _ H Q => Q true H
theorem pts_nil : PTs X [] tYes := fun _ _ _ H _ I h => wpAny_tests_nil ⟨H, I, h⟩
end
theorem thnF {α : Type} {t : Sem α} {Q Q' : α → Shared → Prop} {M : Model} {A : Around} {E : Value → Shared → Prop} {s : Shared} (h : wpAny M A t Q (fun _ _ => False) s) (hQ : ∀ a s, Q a s → Q' a s) : wpAny M A t Q' E s := wpAny_mono h hQ fun _ _ z => False.elim z
/-- the loop of a list comprehension's block, the target of any form (codeAny_compLoop_tests asks a target that no tuple goes to; statement and proof follow it, PyProof/CompMap.lean:41-61, with the step letOwnedTupleGo kept) -/
theorem compLoop_any {prog : Program} {w : World} {A : Around} {R : Result → Shared → Prop} {s : Shared} {elt target iter : Expr} {ifs : List Expr} {scope : Scope} {pos : Pos} {it acc : Value} {env : Env} (I : Nat → Shared → Prop)
    (turn : ∀ n s, I n s → wpAny (model prog w) A (pyNext it) (fun r s₁ => match r with
      | none => R (.ok .next) s₁
      | some v => wpAny (model prog w) A (letOwnedTupleGo target it v) (fun _ s₁' => wpAny (model prog w) A (assign target env v) (fun _ s₂ =>
          wpAny (model prog w) A (forIn ifs true fun c r => if r = true then do let ok ← isTrue c env (eval c env); pure (ForInStep.yield ok) else pure (ForInStep.yield r)) (fun ok s₃ =>
            if ok = true then wpAny (model prog w) A (eval elt env) (fun x s₄ =>
              wpAny (model prog w) A (call (.builtin "list.append") [acc, x]) (fun _ s₅ => ∃ m, m < n ∧ I m s₅) (notedBy (model prog w) A env fun e s' => R (.error e) s') s₄) (notedBy (model prog w) A env fun e s' => R (.error e) s') s₃
            else ∃ m, m < n ∧ I m s₃) (notedBy (model prog w) A env fun e s' => R (.error e) s') s₂) (notedBy (model prog w) A env fun e s' => R (.error e) s') s₁') (notedBy (model prog w) A env fun e s' => R (.error e) s') s₁) (notedBy (model prog w) A env fun e s' => R (.error e) s') s)
    (n : Nat) (h : I n s) :
    codeAny (model prog w) A (.compLoop (.ListComp elt [⟨target, iter, ifs, 0⟩] scope pos) 0 it acc env) R s := by
  refine codeAny_loop rfl I (fun n s hI => ?_) n h
  show wpAny _ A ((compTurn (.ListComp elt [⟨target, iter, ifs, 0⟩] scope pos) 0 it acc env).onRaise (fun x => do noteFrame x env; theTreesLotGoes x)) _ _ s
  refine wpAny_noted ?_
  rw [compTurn_list]
  refine wpAny_bind (wpAny_standAt (wpAny_bind (wpAny_mono (turn n s hI) (fun r s₁ h₁ => ?_) fun _ _ h' => h')))
  cases r with
  | none => exact wpAny_pure h₁
  | some v =>
    refine wpAny_bind (wpAny_mono h₁ (fun _ s₁' h₁' => ?_) fun _ _ h' => h')
    refine wpAny_bind (wpAny_mono h₁' (fun _ s₂ h₂ => wpAny_bind (wpAny_mono h₂ (fun ok s₃ h₃ => ?_) fun _ _ h' => h')) fun _ _ h' => h')
    cases ok with
    | false => exact wpAny_pure ⟨rfl, h₃⟩
    | true =>
      exact wpAny_bind (wpAny_bind (wpAny_mono h₃ (fun x s₄ h₄ => wpAny_bind (wpAny_mono h₄ (fun _ s₅ h₅ => wpAny_pure (wpAny_pure ⟨rfl, h₅⟩)) fun _ _ h' => h')) fun _ _ h' => h'))
section
variable {X : Cx}
/-- [elt for target in iter if ..]: D the new list; W by the turn and a measure, Nx what a turn is to reach -/
def tLc (wi : TI) (g : TG) (tt : TT) (te : TE) (vs : List Nat) : TE := fun σ H Q => wi σ H fun J H1 => ∀ D, H1 D = none → ∃ W : Nat → Nat → Hp → Prop, (∃ m, W 0 m (upd H1 D (.lst []))) ∧ ∀ i m H, W i m H →
  (J.stop i H ∧ Q (.ref D) H) ∨ (J.go i H ∧ ∃ Nx : Hp → Prop, (∀ H', Nx H' → ∃ m', m' < m ∧ W (i + 1) m' H') ∧ ∀ x H', J.yld i H x H' → g x (wipe σ vs) H' fun σ2 H2 => wipe σ2 vs = wipe σ vs ∧ tt σ2 H2 fun b H3 =>
    if b = true then te σ2 H3 fun y H4 => ∃ acc, H4 D = some (.lst acc) ∧ acc.length < sizeLine ∧ Nx (upd H4 D (.lst (acc ++ [y]))) else Nx H3)
theorem lc_core {pins : List (Addr × Obj)} {s : Shared} {σ : St} {H : Hp} {Q : VK} {elt tg iter : Expr} {ifs : List Expr} {scope : Scope} {own : List (Str × Nat)} {pos pos' : Pos} {wi : TI} {g : TG} {tt : TT} {te : TE} {use : Option (Value → Sem Unit)} {Qf : Value → Shared → Prop}
    (hc : X.calm = true) (hN : X.N.Nodup) (I : Inv X pins σ H s) (hi : PI X tg iter wi) (ok : BlkOk X.N X.env.scope scope own)
    (hg : ∀ (s : Shared) (H : Hp) (C : Addr) (cl : List (Str × Addr)) (fp : List Addr), PG (X.blk s H scope (compEnvC scope cl C X.env) fp) tg g) (ht : ∀ (s : Shared) (H : Hp) (C : Addr) (cl : List (Str × Addr)) (fp : List Addr), PTs (X.blk s H scope (compEnvC scope cl C X.env) fp) ifs tt)
    (he : ∀ (s : Shared) (H : Hp) (C : Addr) (cl : List (Str × Addr)) (fp : List Addr), PE (X.blk s H scope (compEnvC scope cl C X.env) fp) elt te) (hs : ∀ x, foldedSetIterable iter X.env x = pure x)
    (h : tLc wi g tt te (own.map (·.2)) σ H Q)
    (hRR : ∀ D C s' m H', Inv X pins σ H' s' → Q (.ref D) H' → s'.heap.Ns C m → FpOk X pins H' C → compPost (model X.prog X.w) X.A X.xe use Qf (.ref D) C (.ok .next) s') :
    wpAny (model X.prog X.w) X.A (comprehension (.ListComp elt [⟨tg, iter, ifs, 0⟩] scope pos) scope X.env pos' (newList []) false (eval iter X.env) use) Qf X.xe s := by
  have hfree : ∀ y ∈ scope.names, y.2 = .free → ∃ c, X.env.cells.lookup y.1 = some c := fun y hy e => by
    rcases ok.free y hy e with k | k
    · exact I.ok.has _ (.inl k)
    · exact I.ok.has _ (.inr k)
  refine wpAny_comprehension_free (use := use) rfl hs (closure_ok hfree) ok.kind (fun y hy e => by rw [ok.uniq y hy, e])
    (thn (hi pins s σ H _ I h) fun xv s1 hx => thn hx fun itv s2 h2 => ?_)
  obtain ⟨it, fp, tn, J, H2, e, I2, T, st2, f2, q⟩ := h2
  subst e
  refine wpAny_newObj_type (newEnv_comp ?_) (by show 0 ≤ sizeLine; decide)
  generalize hD : s2.heap.objs.size = D
  have hDn : H2 D = none := I2.hok.fresh (Nat.le_of_eq hD)
  obtain ⟨W, ⟨m0, w0⟩, turn⟩ := q D hDn
  -- the new list
  generalize hs3 : ({ s2 with heap := s2.heap.push { cls := .type "list", data := .seq ([] : List Value).toArray } } : Shared) = s3
  have I3 : Inv X pins σ (upd H2 D (.lst [])) s3 := by
    rw [← hs3]
    refine I2.laid (t' := s2.toks) (fun b o e => Heap.get?_push_of_some _ e) (Nat.le_of_eq hD) ⟨Nat.zero_le _, [], 0, .nil, ?_⟩
    rw [← hD]
    exact Heap.get?_push_size _ rfl
  have h3 : s3.heap = s2.heap.push { cls := .type "list", data := .seq ([] : List Value).toArray } := by rw [← hs3]
  have sz : ∀ b ∈ fp, b < s2.heap.objs.size := fun b hb => by
    obtain ⟨o, e, _⟩ := T.obj _ _ st2 b hb
    exact Heap.lt_size e
  have f3 : ∀ b ∈ fp, FpOk X pins (upd H2 D (.lst [])) b ∧ b < s3.heap.objs.size := fun b hb => by
    have hlt := sz b hb
    refine ⟨⟨?_, (f2 b hb).2⟩, by rw [h3, Heap.size_push]; exact Nat.lt_succ_of_lt hlt⟩
    rw [upd_ne (by rw [← hD]; exact Nat.ne_of_lt hlt)]
    exact (f2 b hb).1
  have st3 : tn 0 s3.heap := T.keep _ _ _ st2 fun b _ o e => by rw [h3]; exact Heap.get?_push_of_some _ e
  have I4 := block_start I3 ok hN f3
  have pg := hg s3 (upd H2 D (.lst [])) s3.heap.objs.size (cellsFrom (s3.heap.objs.size + 1) scope.names (cloFrom X.env.cells scope.names [])) fp
  have pt := ht s3 (upd H2 D (.lst [])) s3.heap.objs.size (cellsFrom (s3.heap.objs.size + 1) scope.names (cloFrom X.env.cells scope.names [])) fp
  have pe := he s3 (upd H2 D (.lst [])) s3.heap.objs.size (cellsFrom (s3.heap.objs.size + 1) scope.names (cloFrom X.env.cells scope.names [])) fp
  show codeAny _ _ (.compStart (.ListComp elt [⟨tg, iter, ifs, 0⟩] scope pos) 0 (.ref it) (.ref D) (compEnvC scope (cellsFrom (s3.heap.objs.size + 1) scope.names (cloFrom X.env.cells scope.names [])) s3.heap.objs.size X.env)) (compPost (model X.prog X.w) X.A X.xe use Qf (.ref D) s3.heap.objs.size) { s3 with heap := pushCells (s3.heap.push { cls := .type "dict", data := .dict #[] }) scope.names }
  have nfp : ∀ b ∈ fp, (upd H2 D (.lst [])) b = none := fun b hb => (f3 b hb).1.1
  generalize hce : compEnvC scope (cellsFrom (s3.heap.objs.size + 1) scope.names (cloFrom X.env.cells scope.names [])) s3.heap.objs.size X.env = ce at I4 pg pt pe ⊢
  have cL : ce.locals = s3.heap.objs.size := by subst hce; rfl
  generalize hH3 : upd H2 D (.lst []) = H3 at I3 I4 pg pt pe w0 nfp f3
  generalize hs4 : ({ s3 with heap := pushCells (s3.heap.push { cls := .type "dict", data := .dict #[] }) scope.names } : Shared) = s4 at I4 ⊢
  have st4 : tn 0 s4.heap := T.keep _ _ _ st3 fun b _ o e => by rw [← hs4]; exact pushCells_keeps _ _ _ _ (Heap.get?_push_of_some _ e)
  have stat : ∀ {σ' : St} {H' : Hp} {s' : Shared}, Inv (X.blk s3 H3 scope ce fp) [] σ' H' s' → (∀ b ∈ fp, H' b = none) → ∀ b ∈ fp, FpOk (X.blk s3 H3 scope ce fp) [] H' b := fun {σ' H' s'} I' hn b hb =>
    ⟨hn b hb, (I'.ok.exf b hb).1, I'.ok.exfs b hb, .inl hb, fun x c e => (I'.ok.exf b hb).2 x c e, fun p hp => absurd (show p ∈ ([] : List (Addr × Obj)) ++ [] from hp) (by simp)⟩
  have loop : codeAny (model X.prog X.w) X.A (.compLoop (.ListComp elt [⟨tg, iter, ifs, 0⟩] scope pos) 0 (.ref it) (.ref D) ce) (compPost (model X.prog X.w) X.A X.xe use Qf (.ref D) s3.heap.objs.size) s4 := by
    refine compLoop_any (fun n s' => ∃ i H', Inv (X.blk s3 H3 scope ce fp) [] (wipe σ (own.map (·.2))) H' s' ∧ tn i s'.heap ∧ (∀ b ∈ fp, H' b = none) ∧ W i n H') ?_ m0 ⟨0, H3, I4, st4, nfp, w0⟩
    rintro n s5 ⟨i, H5, I5, st5, n5, w5⟩
    rcases turn i n H5 w5 with ⟨stop, qq⟩ | ⟨go, Nx, hNx, step⟩
    · have td := T.done (X.blk s3 H3 scope ce fp) rfl rfl rfl hc i [] s5 _ H5 (fun _ _ => False) I5 (stat I5 n5) st5 stop
      refine thnF td fun r s6 ⟨hr, I6⟩ => ?_
      subst hr
      -- back in the def's context
      have I7 : Inv X pins σ H5 s6 := I3.call' (ch := fp) I6.os I6.base I6.hok I6.bare fun b hb => ⟨(f3 b hb).1.2.2.2.1, (f3 b hb).1.2.1, (f3 b hb).1.2.2.2.2.1, (f3 b hb).1.2.2.2.2.2⟩
      have nC : H5 s3.heap.objs.size = none := by
        have z : H5 ce.locals = none := I6.free
        rw [cL] at z
        exact z
      obtain ⟨m, hn, _⟩ := I6.loc
      have hn : s6.heap.Ns ce.locals m := hn
      rw [cL] at hn
      exact hRR D s3.heap.objs.size s6 m H5 I7 qq hn (I3.fpOk (Nat.le_refl _) nC)
    · have ti := T.item (X.blk s3 H3 scope ce fp) rfl rfl rfl hc i [] s5 _ H5 (fun _ _ => False) I5 (stat I5 n5) st5 go
      refine thnF ti fun r s6 ⟨u, hr, h6⟩ => ?_
      subst hr
      refine thnF h6 fun _ s7 ⟨x, H7, I7, r7, y7, st7, n7⟩ => ?_
      have I7' := I7.pinned (stat I7 n7) (T.obj _ _ st7)
      refine thnF (pg _ s7 _ H7 x u _ I7' r7 (step x H7 y7)) fun _ s8 ⟨σ8, H8, I8, hw8, q8⟩ => ?_
      refine thnF (pt _ s8 σ8 H8 _ I8 q8) fun b s9 ⟨H9, I9, q9⟩ => ?_
      -- the turn's end
      have fin : ∀ {s' : Shared} {H' : Hp}, Inv (X.blk s3 H3 scope ce fp) ([] ++ pinsAt fp s7.heap) σ8 H' s' → Nx H' → ∃ m, m < n ∧ ∃ i H', Inv (X.blk s3 H3 scope ce fp) [] (wipe σ (own.map (·.2))) H' s' ∧ tn i s'.heap ∧ (∀ b ∈ fp, H' b = none) ∧ W i m H' := fun {s' H'} I' nx => by
        obtain ⟨m', hm, w'⟩ := hNx H' nx
        have pin' : ∀ b ∈ fp, ∀ o, s7.heap.get? b = some o → s'.heap.get? b = some o ∧ H' b = none := fun b hb o e =>
          let z := I'.pin (b, o) (List.mem_append_right _ (List.mem_append_right _ (mem_pinsAt hb e)))
          ⟨z.1, z.2.1⟩
        have hl : (wipe σ (own.map (·.2))).length = σ8.length := by rw [← hw8, wipe_length]
        refine ⟨m', hm, i + 1, H', (I'.unpinned (pins := [])).weak hl (fun j v e => ?_), T.keep _ _ _ st7 fun b hb o e => (pin' b hb o e).1, fun b hb => ?_, w'⟩
        · rw [← hw8] at e
          exact (wipe_some e).1
        · obtain ⟨o, e, _⟩ := T.obj _ _ st7 b hb
          exact (pin' b hb o e).2
      cases b with
      | false =>
        simp only [Bool.false_eq_true, if_false] at q9 ⊢
        exact fin I9 q9
      | true =>
        simp only [if_true] at q9 ⊢
        refine thnF (pe _ s9 σ8 H9 _ I9 q9) fun z s10 ⟨yv, H10, I10, r10, acc, hD10, hz10, nx⟩ => ?_
        exact app_ok (X := X.blk s3 H3 scope ce fp) I10 hD10 hz10 r10 fun s11 I11 => fin I11 nx
  exact codeAny_compStart_list loop (T.self X.A 0 _ _ _ st4 loop)
/-- as a value -/
theorem pe_lc {elt tg iter : Expr} {ifs : List Expr} {scope : Scope} {own : List (Str × Nat)} {pos : Pos} {wi : TI} {g : TG} {tt : TT} {te : TE} (hc : X.calm = true) (hN : X.N.Nodup) (hi : PI X tg iter wi) (ok : BlkOk X.N X.env.scope scope own)
    (hg : ∀ (s : Shared) (H : Hp) (C : Addr) (cl : List (Str × Addr)) (fp : List Addr), PG (X.blk s H scope (compEnvC scope cl C X.env) fp) tg g) (ht : ∀ (s : Shared) (H : Hp) (C : Addr) (cl : List (Str × Addr)) (fp : List Addr), PTs (X.blk s H scope (compEnvC scope cl C X.env) fp) ifs tt)
    (he : ∀ (s : Shared) (H : Hp) (C : Addr) (cl : List (Str × Addr)) (fp : List Addr), PE (X.blk s H scope (compEnvC scope cl C X.env) fp) elt te) (hs : ∀ x, foldedSetIterable iter X.env x = pure x := by intro _; rfl) :
    PE X (.ListComp elt [⟨tg, iter, ifs, 0⟩] scope pos) (tLc wi g tt te (own.map (·.2))) := by
  intro pins s σ H Q I h
  rw [eval_ListComp]
  refine lc_core hc hN I hi ok hg ht he hs h fun D C s' m H' I' q hn f => ⟨m, hn, fun h'' sb => ?_⟩
  obtain ⟨f0, f1, f2, f3, f4, f5⟩ := f
  exact ⟨.ref D, H', I'.turned (t' := s'.toks) (fun b o hb e => (sb.2 b hb).trans e) f0 f1 f3 f4 f5, rfl, q⟩
end
/-! ### the forms one uses -/
/-- over a range: Pv by the turn and the heap (the new list at D within) -/
theorem lc_range {lo : Int} {n : Nat} {g : TG} {tt : TT} {te : TE} {vs : List Nat} {σ : St} {H1 : Hp} {D : Addr} {Qd : Hp → Prop} (Pv : Nat → Hp → Prop) (h0 : Pv 0 (upd H1 D (.lst [])))
    (hs : ∀ i H, i < n → Pv i H → g (.int (lo + i)) (wipe σ vs) H fun σ2 H2 => wipe σ2 vs = wipe σ vs ∧ tt σ2 H2 fun b H3 =>
      if b = true then te σ2 H3 fun y H4 => ∃ acc, H4 D = some (.lst acc) ∧ acc.length < sizeLine ∧ Pv (i + 1) (upd H4 D (.lst (acc ++ [y]))) else Pv (i + 1) H3) (hd : ∀ H, Pv n H → Qd H) :
    ∃ W : Nat → Nat → Hp → Prop, (∃ m, W 0 m (upd H1 D (.lst []))) ∧ ∀ i m H, W i m H →
      ((Itr lo n).stop i H ∧ Qd H) ∨ ((Itr lo n).go i H ∧ ∃ Nx : Hp → Prop, (∀ H', Nx H' → ∃ m', m' < m ∧ W (i + 1) m' H') ∧ ∀ x H', (Itr lo n).yld i H x H' → g x (wipe σ vs) H' fun σ2 H2 => wipe σ2 vs = wipe σ vs ∧ tt σ2 H2 fun b H3 =>
        if b = true then te σ2 H3 fun y H4 => ∃ acc, H4 D = some (.lst acc) ∧ acc.length < sizeLine ∧ Nx (upd H4 D (.lst (acc ++ [y]))) else Nx H3) := by
  refine ⟨fun i m H => m = n - i ∧ i ≤ n ∧ Pv i H, ⟨n, by simp, Nat.zero_le _, h0⟩, ?_⟩
  rintro i m H ⟨rfl, hi, p⟩
  by_cases hlt : i < n
  · refine .inr ⟨hlt, Pv (i + 1), fun H' p' => ⟨n - (i + 1), by omega, rfl, hlt, p'⟩, fun x H' y => ?_⟩
    obtain ⟨e, y⟩ := y
    subst e y
    exact hs i _ hlt p
  · have e : i = n := by omega
    subst e
    exact .inl ⟨Nat.le_refl _, hd H p⟩
def blkC (N : List Str) (sc scope : Scope) (own : List (Str × Nat)) : Bool :=
  (match scope.kind with | .function => true | _ => false) && (scope.names.all fun y => decide (scope.names.lookup y.1 = some y.2)) && (own.all fun p => decide (N[p.2]? = some p.1)) &&
    (scope.names.all fun y => match y.2 with
      | .free => (match sc.names.lookup y.1 with | some .cell => true | some .free => true | _ => false)
      | .local => decide (y.1 ∈ own.map (·.1)) || decide (y.1 ∉ N)
      | .cell => decide (y.1 ∈ own.map (·.1)) || decide (y.1 ∉ N)
      | _ => true)
theorem blkOk_by {N : List Str} {sc scope : Scope} {own : List (Str × Nat)} (h : blkC N sc scope own = true) : BlkOk N sc scope own := by
  unfold blkC at h
  simp only [Bool.and_eq_true, List.all_eq_true, decide_eq_true_eq] at h
  obtain ⟨⟨⟨h1, h2⟩, h3⟩, h4⟩ := h
  refine ⟨?_, h2, h3, fun y hy e => ?_, fun y hy e => ?_⟩
  · split at h1
    · assumption
    · cases h1
  · have q := h4 y hy
    simp only [e] at q
    split at q <;> first | exact .inl (by assumption) | exact .inr (by assumption) | cases q
  · have q := h4 y hy
    rcases e with e | e <;> (simp only [e, Bool.or_eq_true, decide_eq_true_eq] at q; exact q)
end L2
namespace L2
open PySem PySem.Spec PyProof.Rows
section
variable {prog : Program} {w : World} {A : Around} {R : Result → Shared → Prop} {s : Shared} {elt t0 i0 t1 i1 : Expr} {ifs0 ifs1 : List Expr} {scope : Scope} {pos : Pos} {it acc : Value} {env : Env}
end
section
variable {X : Cx}
/-- [elt for tg in iter if .. for tg1 in iter1 if ..]: behind the first clause's store and tests the second source's own loop, from which Nx is reached. vs: the block's names; vs1: those of the second target -/
def tLc2 (wi : TI) (g : TG) (tt : TT) (wi1 : TI) (g1 : TG) (tt1 : TT) (te : TE) (vs vs1 : List Nat) : TE := fun σ H Q => wi σ H fun J H1 => ∀ D, H1 D = none → ∃ W : Nat → Nat → Hp → Prop, (∃ m, W 0 m (upd H1 D (.lst []))) ∧ ∀ i m H, W i m H →
  (J.stop i H ∧ Q (.ref D) H) ∨ (J.go i H ∧ ∃ Nx : Hp → Prop, (∀ H', Nx H' → ∃ m', m' < m ∧ W (i + 1) m' H') ∧ ∀ x H', J.yld i H x H' → g x (wipe σ vs) H' fun σ2 H2 => wipe σ2 vs = wipe σ vs ∧ tt σ2 H2 fun b H3 =>
    if b = true then wi1 σ2 H3 fun J1 H4 => ∃ W1 : Nat → Nat → Hp → Prop, (∃ m, W1 0 m H4) ∧ ∀ j k H, W1 j k H →
      (J1.stop j H ∧ Nx H) ∨ (J1.go j H ∧ ∃ Nx1 : Hp → Prop, (∀ H', Nx1 H' → ∃ k', k' < k ∧ W1 (j + 1) k' H') ∧ ∀ x H', J1.yld j H x H' → g1 x (wipe σ2 vs1) H' fun σ3 H5 => wipe σ3 vs1 = wipe σ2 vs1 ∧ tt1 σ3 H5 fun b H6 =>
        if b = true then te σ3 H6 fun y H7 => ∃ acc, H7 D = some (.lst acc) ∧ acc.length < sizeLine ∧ Nx1 (upd H7 D (.lst (acc ++ [y]))) else Nx1 H6)
    else Nx H3)
end
end L2
namespace L2
open PySem PySem.Spec PyProof.Rows
/-! ### lists of pairs as tables -/
section
variable {κ : Type} [DecidableEq κ]
def valV (kvs : List (κ × V)) (k : κ) : Option V := (kvs.find? fun kv => decide (kv.1 = k)).map (·.2)
/-- in its place, or at the end -/
def putK (kvs : List (κ × V)) (k : κ) (v : V) : List (κ × V) :=
  if (kvs.any fun kv => decide (kv.1 = k)) = true then kvs.map (fun kv => if kv.1 = k then (kv.1, v) else kv) else kvs ++ [(k, v)]
def dropK (kvs : List (κ × V)) (k : κ) : List (κ × V) := kvs.filter fun kv => decide (kv.1 ≠ k)
theorem valV_pos {p : κ × V} {r : List (κ × V)} {k : κ} (e : p.1 = k) : valV (p :: r) k = some p.2 := by simp [valV, List.find?_cons, e]
theorem valV_neg {p : κ × V} {r : List (κ × V)} {k : κ} (e : ¬ p.1 = k) : valV (p :: r) k = valV r k := by simp [valV, List.find?_cons, e]
theorem RelO.isSome_eq {o : Option V} {u : Option Value} (r : RelO o u) : o.isSome = u.isSome := by
  cases o with
  | none => cases u with
    | none => rfl
    | some _ => exact (show False from r).elim
  | some _ => cases u with
    | none => exact (show False from r).elim
    | some _ => rfl
/-- raw tables of the same keys -/
theorem KV.val {kvs : List (κ × V)} {vs : List (κ × Value)} (r : KV kvs vs) (k : κ) : RelO (valV kvs k) (valueAt vs k) := by
  unfold KV at r
  induction r with
  | nil => exact True.intro
  | @cons p q ps qs h t ih =>
    obtain ⟨h1, h2⟩ := h
    by_cases e : p.1 = k
    · have e' : q.1 = k := h1.symm.trans e
      have b : valueAt (q :: qs) k = some q.2 := by simp [valueAt, List.find?_cons, e']
      rw [valV_pos e, b]; exact h2
    · have e' : ¬ q.1 = k := fun z => e (h1.trans z)
      have b : valueAt (q :: qs) k = valueAt qs k := by simp [valueAt, List.find?_cons, e']
      rw [valV_neg e, b]; exact ih
end
/-! ### a tracked dict, its keys ints and texts or tuples of these -/
theorem kV_is {P : Program} {w : World} {k : Key} {u : Value} (r : RelV (kV k) u) : (mixKind P w).is k u = true := by
  cases k with
  | inl i => obtain ⟨t, e⟩ := (show ∃ t, u = Value.int i t from r); subst e; exact mixKind_int P w i t
  | inr x => obtain ⟨t, e⟩ := (show ∃ t, u = Value.str x t from r); subst e; exact mixKind_str P w x t
/-- raw entries of a dict with tuple keys -/
abbrev KT (H : Hp) : List (List Key × V) → List (List Key × Addr × Value) → Prop := Paired fun p q => p.1 = q.1 ∧ H q.2.1 = some (.tup (p.1.map kV)) ∧ RelV p.2 q.2.2
section
variable {P : Program} {w : World} {H : Hp} {h : Heap} {a : Addr}
end
/-- what the dict at a holds at the key y -/
def DGet (H : Hp) (a : Addr) (y : V) (r : Option V) : Prop :=
  (∃ kvs k, Rd H a (.dK kvs) ∧ y = kV k ∧ r = valV kvs k) ∨ ∃ kvs k b, Rd H a (.dT kvs) ∧ y = .ref b ∧ H b = some (.tup (k.map kV)) ∧ r = valV kvs k
/-- the heap behind a[y] = v -/
def DPut (H : Hp) (a : Addr) (y v : V) (H' : Hp) : Prop :=
  (∃ kvs k, H a = some (.dK kvs) ∧ y = kV k ∧ kvs.length < sizeLine ∧ H' = upd H a (.dK (putK kvs k v))) ∨
  ∃ kvs k b, H a = some (.dT kvs) ∧ y = .ref b ∧ H b = some (.tup (k.map kV)) ∧ kvs.length < sizeLine ∧ H' = upd H a (.dT (putK kvs k v))
section
variable {X : Cx} {pins : List (Addr × Obj)} {σ : St} {H : Hp} {s : Shared} {a : Addr} {y v : V} {u r : Value} {o : Option V} {A : Around} {E : Value → Shared → Prop}
end
section
variable {X : Cx} {pins : List (Addr × Obj)} {σ : St} {H : Hp} {s : Shared} {a : Addr} {kvs : List (Key × V)} {k : Key} {u : Value} {A : Around} {E : Value → Shared → Prop}
end
/-! ### readings and rules -/
/-- the element of a subscription, not a slice -/
def NoSl (i : Expr) : Prop := ∀ ov iv, subscripted i false ov iv = operate [ov, iv] (getItem ov iv)
theorem subD_of {prog : Program} {w : World} {A : Around} {E : Value → Shared → Prop} {s : Shared} {env : Env} {value slice : Expr} {pos : Pos} {T id : String} {Q : Value → Shared → Prop}
    (hl : typeLookup (.type T) "__getitem__" = pure (some (.builtin id))) (hs : NoSl slice)
    (h : wpAny (model prog w) A (eval value env) (fun o s₁ => wpAny (model prog w) A (eval slice env) (fun i s₂ => s₂.TypeIs o T ∧ wpAny (model prog w) A (getItem o i) Q E s₂) E s₁) E s) :
    wpAny (model prog w) A (eval (.Subscript value slice pos) env) Q E s := by
  refine Subscript_ (wpAny_mono h (fun o s₁ h₁ => wpAny_mono h₁ (fun i s₂ h₂ => ?_) fun _ _ x => x) fun _ _ x => x)
  obtain ⟨hT, h₂⟩ := h₂
  unfold subscriptTail
  refine wpAny_bind ?_
  rw [getitemInPython_of_ne hT.not_modules]
  refine wpAny_bind (wpAny_specialOf hT hl ?_)
  have fin : wpAny (model prog w) A (subscripted slice false o i) (fun r s₃ => wpAny (model prog w) A (letTemporaryGo value o r >>= fun _ => pure r) Q E s₃) E s₂ := by
    rw [hs o i]
    exact wpAny_operating (wpAny_mono h₂ (fun r s₃ h₃ => wpAny_bind (wpAny_letTemporaryGo (wpAny_pure h₃))) fun _ _ x => x)
  first
    | exact wpAny_pure (wpAny_bind fin)
    | exact wpAny_bind (wpAny_pure (wpAny_bind fin))
    | exact wpAny_bind fin
/-- d[y] -/
def tDGet (td ty : TE) : TE := fun σ H Q => td σ H fun x H1 => ty σ H1 fun y H2 => ∃ a v, x = .ref a ∧ DGet H2 a y (some v) ∧ Q v H2
/-- y in d, y not in d -/
def tDIn (ty td : TE) : TE := fun σ H Q => ty σ H fun y H1 => td σ H1 fun x H2 => ∃ a o, x = .ref a ∧ DGet H2 a y o ∧ Q (.bl o.isSome) H2
def tDNotIn (ty td : TE) : TE := fun σ H Q => ty σ H fun y H1 => td σ H1 fun x H2 => ∃ a o, x = .ref a ∧ DGet H2 a y o ∧ Q (.bl (!o.isSome)) H2
/-- d[y] = v -/
def sDPut (td ty tv : TE) : TS := fun D σ H => tv σ H fun v H1 => td σ H1 fun x H2 => ty σ H2 fun y H3 => ∃ a H4, x = .ref a ∧ DPut H3 a y v H4 ∧ D.nx σ H4
/-- d[y] op= v -/
def sDAug (td ty tv : TE) (rd : V → V → Hp → VK → Prop) : TS := fun D σ H => td σ H fun x H1 => ty σ H1 fun y H2 => ∃ a v, x = .ref a ∧ DGet H2 a y (some v) ∧
  tv σ H2 fun y2 H3 => rd v y2 H3 fun z H4 => ∃ H5, DPut H4 a y z H5 ∧ D.nx σ H5
/-- del d[y] -/
def sDDel (td ty : TE) : TS := fun D σ H => td σ H fun x H1 => ty σ H1 fun y H2 => ∃ a kvs k, x = .ref a ∧ H2 a = some (.dK kvs) ∧ y = kV k ∧ (valV kvs k).isSome = true ∧ D.nx σ (upd H2 a (.dK (dropK kvs k)))
section
variable {X : Cx} {o i e value : Expr} {pos pos' tpos : Pos} {td ty tv : TE}
end
/-! ### displays -/
/-- {}, to be a dict of the kind that is wanted -/
def tDNewK : TE := fun _ H Q => ∀ p, H p = none → Q (.ref p) (upd H p (.dK []))
def tDNewT : TE := fun _ H Q => ∀ p, H p = none → Q (.ref p) (upd H p (.dT []))
section
variable {X : Cx} {pos : Pos}
end
/-- the pairs of a display, from the left -/
def tPairs : List (TE × TE) → St → Hp → (List (V × V) → Hp → Prop) → Prop
  | [], _, H, Q => Q [] H
  | (tk, tv) :: r, σ, H, Q => tk σ H fun x H1 => tv σ H1 fun y H2 => tPairs r σ H2 fun ps H3 => Q ((x, y) :: ps) H3
abbrev VV : List (V × V) → List (Value × Value) → Prop := Paired fun p q => RelV p.1 q.1 ∧ RelV p.2 q.2
def PPs (X : Cx) (pos : Pos) (keys : List (Option Expr)) (values : List Expr) (trs : List (TE × TE)) : Prop :=
  ∀ (pins : List (Addr × Obj)) (s : Shared) (σ : St) (H : Hp) (Q : List (V × V) → Hp → Prop), Inv X pins σ H s → tPairs trs σ H Q →
    wpAny (model X.prog X.w) X.A (evalPairs (pairTrees keys values X.env pos)) (fun vs s' => ∃ ps H', Inv X pins σ H' s' ∧ VV ps vs ∧ Q ps H') X.xe s
def mergeK (kvs more : List (Key × V)) : List (Key × V) := more.foldl (fun acc kv => putK acc kv.1 kv.2) kvs
/-- {k: v, ..} with keys ints and texts; the new dict stands empty while the pairs are made -/
def tDisp (trs : List (TE × TE)) : TE := fun σ H Q => ∀ p, H p = none → tPairs trs σ (upd H p (.dK [])) fun ps H2 => H2 p = some (.dK []) ∧ ∃ kvs : List (Key × V), ps = kvs.map (fun kv => (kV kv.1, kv.2)) ∧ kvs.length ≤ 15 ∧ Q (.ref p) (upd H2 p (.dK (mergeK [] kvs)))
/-! ### methods -/
/-- a method call o.m(e) of a built-in, with one argument: what must be seen of the text -/
structure M1 (X : Cx) (o : Expr) (m : Str) (apos : Pos) (e : Expr) (cpos : Pos) : Prop where
  base : attributeBase o m X.env (eval o X.env) = eval o X.env
  few : ((backTo cpos (starEach [e] X.env)).all (fun x => !x.1) && (backToKw cpos (keywordEach [] X.env)).all (fun x => x.1.isSome)
    && decide (([e] : List Expr).length + ([] : List Keyword).length + (if ([] : List Keyword).isEmpty then 0 else 1) < 30)) = true
  line : (apos.endLine == cpos.line) = true
  trees : backTo cpos (starEach [e] X.env) = [(false, eval e X.env)]
structure M2 (X : Cx) (o : Expr) (m : Str) (apos : Pos) (e f : Expr) (cpos : Pos) : Prop where
  base : attributeBase o m X.env (eval o X.env) = eval o X.env
  few : ((backTo cpos (starEach [e, f] X.env)).all (fun x => !x.1) && (backToKw cpos (keywordEach [] X.env)).all (fun x => x.1.isSome)
    && decide (([e, f] : List Expr).length + ([] : List Keyword).length + (if ([] : List Keyword).isEmpty then 0 else 1) < 30)) = true
  line : (apos.endLine == cpos.line) = true
  trees : backTo cpos (starEach [e, f] X.env) = [(false, eval e X.env), (false, eval f X.env)]
/-- a is a dict, whatever its keys -/
def IsD (H : Hp) (a : Addr) : Prop := (∃ kvs, Rd H a (.dK kvs)) ∨ ∃ kvs, Rd H a (.dT kvs)
section
variable {X : Cx} {pins : List (Addr × Obj)} {σ : St} {H : Hp} {s : Shared} {a : Addr} {y d : V} {u r : Value} {o : Option V} {A : Around} {E : Value → Shared → Prop}
end
def tDGet1 (td ty : TE) : TE := fun σ H Q => td σ H fun x H1 => ∃ a, x = .ref a ∧ IsD H1 a ∧ ty σ H1 fun y H2 => ∃ o, DGet H2 a y o ∧ Q (o.getD .non) H2
def tDGet2 (td ty tx : TE) : TE := fun σ H Q => td σ H fun x H1 => ∃ a, x = .ref a ∧ IsD H1 a ∧ ty σ H1 fun y H2 => tx σ H2 fun z H3 => ∃ o, DGet H3 a y o ∧ Q (o.getD z) H3
/-- d.pop(k): there; d.pop(k, x): there or not -/
def tDPop1 (td ty : TE) : TE := fun σ H Q => td σ H fun x H1 => ∃ a, x = .ref a ∧ IsD H1 a ∧ ty σ H1 fun y H2 => ∃ kvs k v, H2 a = some (.dK kvs) ∧ y = kV k ∧ valV kvs k = some v ∧ Q v (upd H2 a (.dK (dropK kvs k)))
def tDPop2 (td ty tx : TE) : TE := fun σ H Q => td σ H fun x H1 => ∃ a, x = .ref a ∧ IsD H1 a ∧ ty σ H1 fun y H2 => tx σ H2 fun z H3 => ∃ kvs k, H3 a = some (.dK kvs) ∧ y = kV k ∧
  (∀ v, valV kvs k = some v → Q v (upd H3 a (.dK (dropK kvs k)))) ∧ (valV kvs k = none → Q z H3)
section
variable {X : Cx} {o e f : Expr} {apos cpos : Pos} {td ty tx : TE}
end
/-! ### dict(d): a copy -/
section
variable {X : Cx} {pins : List (Addr × Obj)} {σ : St} {H : Hp} {s : Shared} {a : Addr} {kvs : List (Key × V)} {A : Around} {E : Value → Shared → Prop}
end
section
variable {X : Cx} {pins : List (Addr × Obj)} {σ : St} {H : Hp} {s : Shared} {a : Addr} {y : V} {u : Value} {A : Around} {E : Value → Shared → Prop}
end
end L2
namespace L2
open PySem PySem.Spec PyProof.Rows
section
variable {prog : Program} {w : World} {A : Around} {E : Value → Shared → Prop}
end
section
variable {X : Cx}
end
end L2
namespace L2
open PySem PySem.Spec PyProof.Rows
section
variable {X : Cx} {pins : List (Addr × Obj)} {σ : St} {H : Hp} {s : Shared} {h' : Heap}
/-- .. and one new object is laid -/
theorem Inv.turnedNew {t' : Nat} {ch : List Addr} {T : Addr} {ob : HO} (I : Inv X pins σ H s) (k : ∀ b o, b ∉ ch → s.heap.get? b = some o → h'.get? b = some o) (hf : ∀ b ∈ ch, FpOk X pins H b) (hT : s.heap.objs.size ≤ T)
    (new : ObjOk X.prog X.w (upd H T ob) h' T ob) : Inv X pins σ (upd H T ob) { s with heap := h', toks := t' } := by
  have hn : H T = none := I.hok.fresh hT
  have nit : ∀ b u, H b = some u → b ∉ ch := fun b u e z => by
    have q := (hf b z).1
    rw [q] at e; cases e
  refine I.step (g' := s.gens) (d' := s.drawn) (ch := ch) (fun b hb => ⟨(hf b hb).2.2.2.1, (hf b hb).2.1, (hf b hb).2.2.2.2.1, (hf b hb).2.2.2.2.2⟩) (fun b o _ _ hc e _ => k b o hc e) (fun b o _ _ hc e _ => ⟨o.slots, k b o hc e⟩)
    (fun b o _ e n => ?_) (fun b o hc e => ⟨o, k b o hc e⟩) (fun b xs e => ?_) (fun b o u e => ?_) (fun b ps e => ⟨#[], ?_⟩) (fun m hm => ?_) (fun b u e => ?_) I.bare
  · rw [upd_ne (Nat.ne_of_lt (Nat.lt_of_lt_of_le (Heap.lt_size e) hT))]; exact n
  · rw [upd_ne (ne_of_none e hn)]; exact e
  · rw [upd_ne (ne_of_none e hn)]; exact e
  · rw [upd_ne (ne_of_none e hn), e]; simp
  · obtain ⟨o, es, ep, ho, r⟩ := hm
    exact ⟨o, es, ep, k _ o (fun z => (hf _ z).2.1 rfl) ho, r⟩
  · by_cases hb : b = T
    · subst hb
      rw [upd_same] at e
      cases e
      exact new
    · rw [upd_ne hb] at e
      refine (I.hok b u e).stay (fun c v hc q => k c v ?_ q) (fun c q => by rw [upd_ne (ne_of_none q hn)]; exact q) fun c xs q => by rw [upd_ne (ne_of_none q hn)]; exact q
      rcases hc with z | z
      · rw [z]; exact nit b u e
      · exact nit c _ z
/-! ### locking a thing while a statement runs -/
end
/-- the statement runs while the thing at d is locked (read, not written); d and what stands there are the reading's choice -/
def tLock (t : TS) : TS := fun D σ H => ∃ d u, H d = some u ∧ Mut (some u) ∧ ∀ od, t ⟨fun σ' H' => H' d = some (.frz od u) ∧ D.nx σ' (upd H' d u), fun v H' => H' d = some (.frz od u) ∧ D.rt v (upd H' d u), fun σ' H' => H' d = some (.frz od u) ∧ D.bk σ' (upd H' d u), fun σ' H' => H' d = some (.frz od u) ∧ D.ct σ' (upd H' d u)⟩ σ (upd H d (.frz od u))
def tLockE (t : TE) : TE := fun σ H Q => ∃ d u, H d = some u ∧ Mut (some u) ∧ ∀ od, t σ (upd H d (.frz od u)) fun v H' => H' d = some (.frz od u) ∧ Q v (upd H' d u)
section
variable {X : Cx}
/-! ### one iterator just laid -/
theorem pi_one {tg : Expr} {pins : List (Addr × Obj)} {σ : St} {H : Hp} {s : Shared} {R : It → Hp → Prop} {J : It} {tn : Nat → Heap → Prop} {tk : Nat} (I : Inv X pins σ H s) (o : Obj)
    (T : Turn X.prog X.w X.K tg J [s.heap.objs.size] s.heap.objs.size tn) (st : tn 0 (s.heap.push o)) (q : R J H) : PIE X pins σ tg R (.ref s.heap.objs.size) { s with heap := s.heap.push o, toks := tk } := by
  refine ⟨s.heap.objs.size, [s.heap.objs.size], tn, J, H, rfl, I.kept fun b ob e => Heap.get?_push_of_some _ e, T, st, fun b hb => ?_, q⟩
  have e : b = s.heap.objs.size := by simpa using hb
  subst e
  exact I.fpOk (Nat.le_refl _) (I.hok.fresh (Nat.le_refl _))
end
/-! ### range with a step -/
/-- lo, lo + c, .. (n of them) -/
def Itc (lo c : Int) (n : Nat) : It := ⟨fun i _ => i < n, fun i H x H' => H' = H ∧ x = .int (lo + (i : Nat) * c), fun i _ => n ≤ i⟩
theorem turn_rangeC {P : Program} {w : World} {K : PySem.W.Frag} {tg : Expr} (it : Addr) (lo c : Int) (n : Nat) : Turn P w K tg (Itc lo c n) [it] it (fun i h => IsRangeIter h it (lo + (i : Nat) * c) ((n : Int) - (i : Nat)) c) where
  mem := by simp
  obj := fun i h st b hb => by
    have e : b = it := by simpa using hb
    subst e
    exact ⟨_, st, fun v z => nomatch z⟩
  keep := fun i h h' st k => k it (by simp) _ st
  item := by
    intro X hP hw hK hc i pins s σ H E I hf st hg
    subst hP hw hK
    obtain ⟨f0, f1, f2, f3, f4, f5⟩ := hf it (by simp)
    have W := Walks.range (prog := X.prog) (w := X.w) (I.ok.hd hc) it lo c n
    refine W.item i s _ _ hg st fun v h' tk hv st' kk => ?_
    obtain ⟨t, rfl⟩ := hv
    have I1 : Inv X pins σ H { s with heap := h', toks := tk } := I.turned (fun b o hb e => kk b o (by simpa using hb) e) f0 f1 f3 f4 f5
    exact ⟨_, rfl, go_of (s := { s with heap := h', toks := tk }) (n := "range_iterator") st' rfl rfl (by decide) ⟨.int (lo + (i : Nat) * c), H, I1, ⟨t, rfl⟩, ⟨rfl, rfl⟩, st', fun b hb => (hf b hb).1⟩⟩
  done := by
    intro X hP hw hK hc i pins s σ H E I hf st hg
    subst hP hw hK
    obtain ⟨f0, f1, f2, f3, f4, f5⟩ := hf it (by simp)
    exact wpAny_pyNext_range_end (I.ok.hd hc) st (by have : n ≤ i := hg; omega) fun h' eb => ⟨rfl, I.turned (t' := s.toks) (fun b o hb e => eb b o hb e) f0 f1 f3 f4 f5⟩
  self := fun A i s Q E st h => wpAny_pyIter_rangeiter st h
/-- range(i, j, c): small bounds, n items -/
def RgC (i j c : Int) (n : Nat) : Prop := c ≠ 0 ∧ c.natAbs < 1073741824 ∧ Builtin.Range.small i j c = true ∧ Builtin.Range.rangeSize i j c = n
theorem RgC.neg {i j : Int} (ha : -(2 ^ 62) ≤ i) (ha' : i < 2 ^ 62) (hb : -(2 ^ 62) ≤ j) (hb' : j < 2 ^ 62) : RgC i j (-1) (i - j).toNat :=
  ⟨by decide, by decide, PySem.W.small_down ha ha' hb hb', PySem.W.rangeSize_downNat i j⟩
def iRng3 (ta : TA) : TI := fun σ H R => ta σ H fun vs H1 => ∃ (i j c : Int) (n : Nat), vs = [.int i, .int j, .int c] ∧ RgC i j c n ∧ R (Itc i c n) H1
section
variable {X : Cx} {tg : Expr}
theorem pi_range3 {a b c : Expr} {ta : TA} {p pos : Pos} (hg : Gl X "range") (hm : X.mg "range" = none) (ha : PA X [a, b, c] ta)
    (hs : starEach [a, b, c] X.env = (false, eval a X.env) :: starEach [b, c] X.env := by rfl) (hpl : (backTo pos (starEach [b, c] X.env)).any (·.1) = false := by rfl) :
    PI X tg (.Call (.Name "range" p) [a, b, c] [] pos) (iRng3 ta) := by
  intro pins s σ H R I h
  refine Call_ (ld_blt I hg hm boot_range (PyProof.Rows.callWith_type1 (thn (ha pos pins s σ H _ I h) fun us s1 ⟨vs, H1, I1, r1, q1⟩ => ?_) hs hpl))
  obtain ⟨i, j, k, n, e, ⟨c0, c1, c2, c3⟩, q⟩ := q1
  subst e
  cases r1 with
  | cons r rr =>
    cases rr with
    | cons r' rr =>
      cases rr with
      | cons r'' rr =>
        cases rr
        obtain ⟨t, rfl⟩ := r
        obtain ⟨t', rfl⟩ := r'
        obtain ⟨t'', rfl⟩ := r''
        refine call_range_3 c0 ?_ (.inl (PyProof.noPylong_small c1))
        refine wpAny_pyIter_range (IsRange.new ..) c2 ?_
        have I2 : Inv X pins σ H1 { s1 with heap := s1.heap.push { cls := .type "range", data := .fields #[.int i t, .int j t', .int k t''] } } := I1.kept (t' := s1.toks) fun b o e => Heap.get?_push_of_some _ e
        refine pi_one (tk := s1.toks) I2 _ (turn_rangeC _ i k n) ?_ q
        have e1 : i + ((0 : Nat) : Int) * k = i := by simp
        have e2 : (n : Int) - ((0 : Nat) : Int) = Builtin.Range.rangeSize i j k := by rw [c3]; simp
        show IsRangeIter _ _ (i + ((0 : Nat) : Int) * k) ((n : Int) - ((0 : Nat) : Int)) k
        rw [e1, e2]
        exact Heap.get?_push_size _ rfl
end
/-- the turns of a step range, for the for loop -/
theorem for_rangeC {lo c : Int} {n : Nat} {g : TG} {tb : TS} {D : Ends} {σ : St} {H : Hp} (Pv : Nat → St → Hp → Prop) (h0 : Pv 0 σ H)
    (hs : ∀ i σ H, i < n → Pv i σ H → g (.int (lo + (i : Nat) * c)) σ H fun σ2 H2 => tb { D with nx := Pv (i + 1), ct := Pv (i + 1), bk := D.nx } σ2 H2) (hd : ∀ σ H, Pv n σ H → D.nx σ H) :
    ∃ W : Nat → Nat → St → Hp → Prop, (∃ m, W 0 m σ H) ∧ ∀ i m σ H, W i m σ H →
      ((Itc lo c n).stop i H ∧ D.nx σ H) ∨ ((Itc lo c n).go i H ∧ ∃ N : St → Hp → Prop, (∀ σ' H', N σ' H' → ∃ m', m' < m ∧ W (i + 1) m' σ' H') ∧ ∀ x H', (Itc lo c n).yld i H x H' → g x σ H' fun σ2 H2 => tb { D with nx := N, ct := N, bk := D.nx } σ2 H2) := by
  refine ⟨fun i m σ H => m = n - i ∧ i ≤ n ∧ Pv i σ H, ⟨n, by simp, Nat.zero_le _, h0⟩, ?_⟩
  rintro i m σ H ⟨rfl, hi, p⟩
  by_cases hlt : i < n
  · refine .inr ⟨hlt, Pv (i + 1), fun σ' H' p' => ⟨n - (i + 1), by omega, rfl, hlt, p'⟩, fun x H' y => ?_⟩
    obtain ⟨e, y⟩ := y
    subst e y
    exact hs i σ _ hlt p
  · have e : i = n := by omega
    subst e
    exact .inl ⟨Nat.le_refl _, hd σ H p⟩
/-! ### reversed(list) -/
/-- the list at a (n items at the start, which the loop leaves there), from its end -/
def Itv (K : PySem.W.Frag) (a : Addr) (n : Nat) : It :=
  ⟨fun i H => i < n ∧ ∃ (xs : List V) (x : V), SqL K H a xs ∧ xs[n - 1 - i]? = some x, fun i H x H' => H' = H ∧ ∀ xs, SqL K H a xs → xs[n - 1 - i]? = some x, fun i _ => n ≤ i⟩
def iRev (K : PySem.W.Frag) (ta : TA) : TI := fun σ H R => ta σ H fun vs H1 => ∃ (a : Addr) (xs : List V), vs = [.ref a] ∧ SqL K H1 a xs ∧ R (Itv K a xs.length) H1
section
variable {X : Cx} {tg : Expr}
end
/-! ### a str -/
def Its (x : Str) : It := ⟨fun i _ => i < x.cps.size, fun i H v H' => H' = H ∧ ∃ c, x.cps[i]? = some c ∧ v = .str ⟨#[c]⟩, fun i _ => x.cps.size ≤ i⟩
theorem turn_str {P : Program} {w : World} {K : PySem.W.Frag} {tg : Expr} (it : Addr) (x : Str) (t : Tok) (ty : String) (hty : ty = "str_ascii_iterator" ∨ ty = "str_iterator") :
    Turn P w K tg (Its x) [it] it (fun i h => h.IsStrIter it ty x t i) where
  mem := by simp
  obj := fun i h st b hb => by
    have e : b = it := by simpa using hb
    subst e
    obtain ⟨o, e, c, d⟩ := st
    exact ⟨o, e, fun v z => by rw [d] at z; cases z⟩
  keep := fun i h h' st k => let ⟨o, ho, r⟩ := st; ⟨o, k it (by simp) o ho, r⟩
  item := by
    intro X hP hw hK hc i pins s σ H E I hf st hg
    subst hP hw hK
    obtain ⟨f0, f1, f2, f3, f4, f5⟩ := hf it (by simp)
    have W : Walks X.prog X.w X.A it [it] [it] x.cps.size (SignAt x) (fun i h => h.IsStrIter it ty x t i) := by
      rcases hty with e | e
      · rw [e]; exact Walks.strAscii (I.ok.hd hc) it x t
      · rw [e]; exact Walks.strWide (I.ok.hd hc) it x t
    have hno : ["enumerate", "zip", "dict_itemiterator", "dict_reverseitemiterator", "odict_iterator", "itertools.zip_longest", "itertools.pairwise"].contains ty = false := by
      rcases hty with e | e
      · rw [e]; decide
      · rw [e]; decide
    refine W.item i s _ _ hg st fun v h' tk hv st' kk => ?_
    obtain ⟨c, u, hcx, rfl⟩ := hv
    have I1 : Inv X pins σ H { s with heap := h', toks := tk } := I.turned (fun b o hb e => kk b o (by simpa using hb) e) f0 f1 f3 f4 f5
    obtain ⟨oi, e, cc, dd⟩ := id st'
    exact ⟨_, rfl, go_of (s := { s with heap := h', toks := tk }) e cc dd hno ⟨.str ⟨#[c]⟩, H, I1, ⟨u, rfl⟩, ⟨rfl, c, hcx, rfl⟩, st', fun b hb => (hf b hb).1⟩⟩
  done := by
    intro X hP hw hK hc i pins s σ H E I hf st hg
    subst hP hw hK
    obtain ⟨f0, f1, f2, f3, f4, f5⟩ := hf it (by simp)
    have hx : x.cps[i]? = none := Array.getElem?_eq_none hg
    rcases hty with e | e
    · rw [e] at st
      exact wpAny_pyNext_ascii_end (I.ok.hd hc) st hx fun h' eb => ⟨rfl, I.turned (t' := s.toks) (fun b o hb e => eb b o hb e) f0 f1 f3 f4 f5⟩
    · rw [e] at st
      exact wpAny_pyNext_wide_end (I.ok.hd hc) st hx fun h' eb => ⟨rfl, I.turned (t' := s.toks) (fun b o hb e => eb b o hb e) f0 f1 f3 f4 f5⟩
  self := fun A i s Q E st h => by
    rcases hty with e | e
    · rw [e] at st; exact wpAny_pyIter_striter_ascii st h
    · rw [e] at st; exact wpAny_pyIter_striter_wide st h
def iStr (te : TE) : TI := fun σ H R => te σ H fun v H1 => ∃ x, v = .str x ∧ R (Its x) H1
theorem pi_str {X : Cx} {tg e : Expr} {te : TE} (he : PE X e te) : PI X tg e (iStr te) := by
  intro pins s σ H R I h
  refine thn (he pins s σ H _ I h) fun v s1 ⟨y, H1, I1, r1, x, ex, q⟩ => ?_
  subst ex
  obtain ⟨t, rfl⟩ := r1
  cases ha : x.cps.all (· < 128)
  · exact wpAny_pyIter_wide ha (pi_one (tk := s1.toks) I1 _ (turn_str _ x t "str_iterator" (.inr rfl)) ⟨_, Heap.get?_push_size _ rfl, rfl, rfl⟩ q)
  · exact wpAny_pyIter_ascii ha (pi_one (tk := s1.toks) I1 _ (turn_str _ x t "str_ascii_iterator" (.inl rfl)) ⟨_, Heap.get?_push_size _ rfl, rfl, rfl⟩ q)
/-! ### a dict's keys: any dict's entries -/
section
variable {prog : Program} {w : World} {A : Around} {E : Value → Shared → Prop} {s : Shared}
end
/-! ### a locked dict -/
section
variable {X : Cx} {pins : List (Addr × Obj)} {σ : St} {H : Hp} {s : Shared} {d : Addr} {o : Obj}
end
/-- the keys of the locked dict at d, in their order -/
def Itk (d : Addr) (o : Obj) (kvs : List (Key × V)) : It :=
  ⟨fun i H => H d = some (.frz o (.dK kvs)) ∧ i < kvs.length, fun i H x H' => H' = H ∧ ∃ k v, kvs[i]? = some (k, v) ∧ x = kV k, fun i H => H d = some (.frz o (.dK kvs)) ∧ kvs.length ≤ i⟩
/-- .. of tuple keys: the key's own tuple -/
def Itkt (d : Addr) (o : Obj) (kvs : List (List Key × V)) : It :=
  ⟨fun i H => H d = some (.frz o (.dT kvs)) ∧ i < kvs.length, fun i H x H' => H' = H ∧ ∃ (k : List Key) (v : V) (q : Addr), kvs[i]? = some (k, v) ∧ x = .ref q ∧ H q = some (.tup (k.map kV)), fun i H => H d = some (.frz o (.dT kvs)) ∧ kvs.length ≤ i⟩
/-- the values -/
def Itd (d : Addr) (o : Obj) (kvs : List (Key × V)) : It :=
  ⟨fun i H => H d = some (.frz o (.dK kvs)) ∧ i < kvs.length, fun i H x H' => H' = H ∧ ∃ k, kvs[i]? = some (k, x), fun i H => H d = some (.frz o (.dK kvs)) ∧ kvs.length ≤ i⟩
/-- the pairs, each a new tuple -/
def Iti (d : Addr) (o : Obj) (kvs : List (Key × V)) : It :=
  ⟨fun i H => H d = some (.frz o (.dK kvs)) ∧ i < kvs.length, fun i H x H' => ∃ T k v, kvs[i]? = some (k, v) ∧ x = .ref T ∧ H T = none ∧ H' = upd H T (.tup [kV k, v]), fun i H => H d = some (.frz o (.dK kvs)) ∧ kvs.length ≤ i⟩
section
variable {P : Program} {w : World} {K : PySem.W.Frag} {tg : Expr} {d : Addr} {o : Obj} {es : Array DictEntry} {ep : Nat}
end
/-! ### for k in d, d.keys(), d.values(), d.items() -/
/-- the dict is locked (tLock, or by the caller) -/
def iKeys (td : TE) : TI := fun σ H R => td σ H fun x H1 => ∃ d o, x = .ref d ∧ ((∃ kvs, H1 d = some (.frz o (.dK kvs)) ∧ R (Itk d o kvs) H1) ∨ ∃ kvs, H1 d = some (.frz o (.dT kvs)) ∧ R (Itkt d o kvs) H1)
def iVals (td : TE) : TI := fun σ H R => td σ H fun x H1 => ∃ d o kvs, x = .ref d ∧ H1 d = some (.frz o (.dK kvs)) ∧ R (Itd d o kvs) H1
def iItems (td : TE) : TI := fun σ H R => td σ H fun x H1 => ∃ d o kvs, x = .ref d ∧ H1 d = some (.frz o (.dK kvs)) ∧ R (Iti d o kvs) H1
def iKeysM (td : TE) : TI := fun σ H R => td σ H fun x H1 => ∃ d o kvs, x = .ref d ∧ H1 d = some (.frz o (.dK kvs)) ∧ R (Itk d o kvs) H1
section
variable {X : Cx} {tg e : Expr} {td : TE} {apos cpos : Pos}
end
/-! ### enumerate(list) -/
/-- the list at a as it stands at each turn, each item in a new pair -/
def Ite (K : PySem.W.Frag) (a : Addr) : It :=
  ⟨fun i H => ∃ (xs : List V) (x : V), SqL K H a xs ∧ xs[i]? = some x, fun i H v H' => ∃ T x, v = .ref T ∧ H T = none ∧ H' = upd H T (.tup [.int (i : Nat), x]) ∧ ∀ xs, SqL K H a xs → xs[i]? = some x, fun i H => ∃ xs : List V, SqL K H a xs ∧ xs.length ≤ i⟩
theorem turn_enum {P : Program} {w : World} {K : PySem.W.Frag} {elts : List Expr} {kk : Nat} {tpos : Pos} (a e it : Addr) :
    Turn P w K (.Tuple elts kk tpos) (Ite K a) [e, it] e (fun i h => (∃ old, IsEnum h e it ((i : Nat) : Int) old) ∧ h.IsListIter it a i ∧ e ≠ it) where
  mem := by simp
  obj := fun i h st b hb => by
    obtain ⟨⟨old, he⟩, ⟨o, ho, hc, hd⟩, _⟩ := st
    have e' : b = e ∨ b = it := by simpa using hb
    rcases e' with z | z
    · rw [z]; exact ⟨_, he, fun v q => nomatch q⟩
    · rw [z]; exact ⟨o, ho, fun v q => by rw [hd] at q; cases q⟩
  keep := fun i h h' st k => let ⟨⟨old, he⟩, hi, hne⟩ := st; ⟨⟨old, k e (by simp) _ he⟩, hi.at fun o q => k it (by simp) o q, hne⟩
  item := by
    intro X hP hw hK hc i pins s σ H E I hf st hg
    subst hP hw hK
    obtain ⟨⟨old, he⟩, hit, hne⟩ := st
    obtain ⟨xs, x, hq, hx⟩ := hg
    obtain ⟨its, rv, p, hz⟩ := I.list hq
    obtain ⟨u, hu, ru⟩ := rv.get hx
    have hel : e < s.heap.objs.size := Heap.lt_size he
    have hil : it < s.heap.objs.size := by obtain ⟨_, q, _⟩ := hit; exact Heap.lt_size q
    refine wpAny_pyNext_enum_item he hit p.isList (x := u) (by simpa using hu) hne fun h' ho hit' hT hsz hk => ?_
    refine ⟨_, rfl, wpAny_letOwnedTupleGo_enum (s := { s with heap := h', toks := s.toks + 1 }) ho fun h'' he' sb => ?_⟩
    have hT2 : h''.get? s.heap.objs.size = some { cls := .type "tuple", data := .seq #[.int i s.toks, u] } := (sb.2 _ (Nat.ne_of_gt hel)).trans hT
    have new : ObjOk X.prog X.w (upd H s.heap.objs.size (.tup [.int (i : Nat), x])) h'' s.heap.objs.size (.tup [.int (i : Nat), x]) :=
      ⟨by show 2 ≤ sizeLine; decide, [.int i s.toks, u], .cons ⟨_, rfl⟩ (.cons ru .nil), ⟨_, hT2, rfl, _, rfl⟩⟩
    have I1 : Inv X pins σ (upd H s.heap.objs.size (.tup [.int (i : Nat), x])) { s with heap := h'', toks := s.toks + 1 } :=
      I.turnedNew (ch := [e, it]) (fun b ob hb q => (sb.2 b (fun z => hb (by simp [z]))).trans (hk b ob (fun z => hb (by simp [z])) (fun z => hb (by simp [z])) q)) hf (Nat.le_refl _) new
    refine ⟨.ref s.heap.objs.size, _, I1, rfl, ⟨_, x, rfl, I.hok.fresh (Nat.le_refl _), rfl, fun ys hy => by rw [I.list_inj hy hq]; exact hx⟩, ⟨⟨u, ?_⟩, hit'.at fun o q => (sb.2 it (Ne.symm hne)).trans q, hne⟩, fun b hb => ?_⟩
    · have e1 : ((i + 1 : Nat) : Int) = (i : Int) + 1 := by omega
      rw [e1]; exact he'
    · have hb' : b < s.heap.objs.size := by
        have e' : b = e ∨ b = it := by simpa using hb
        rcases e' with z | z
        · rw [z]; exact hel
        · rw [z]; exact hil
      rw [upd_ne (Nat.ne_of_lt hb')]
      exact (hf b hb).1
  done := by
    intro X hP hw hK hc i pins s σ H E I hf st hg
    subst hP hw hK
    obtain ⟨⟨old, he⟩, hit, hne⟩ := st
    obtain ⟨xs, hq, hx⟩ := hg
    obtain ⟨its, rv, p, hz⟩ := I.list hq
    obtain ⟨f0, f1, f2, f3, f4, f5⟩ := hf it (by simp)
    have hl := rv.length
    exact wpAny_pyNext_enum_end (I.ok.hd hc) he hit p.isList (by simp; omega) fun h' eb => ⟨rfl, I.turned (t' := s.toks) (fun b o hb q => eb b o hb q) f0 f1 f3 f4 f5⟩
  self := fun A i s Q E st h => let ⟨⟨_, he⟩, _⟩ := st; wpAny_pyIter_enum he h
def iEnum (K : PySem.W.Frag) (ta : TA) : TI := fun σ H R => ta σ H fun vs H1 => ∃ a xs, vs = [.ref a] ∧ SqL K H1 a xs ∧ R (Ite K a) H1
theorem pi_enum {X : Cx} {e : Expr} {ta : TA} {p pos tpos : Pos} {elts : List Expr} {kk : Nat} (hg : Gl X "enumerate") (hm : X.mg "enumerate" = none) (ha : PA X [e] ta) (hs : starEach [e] X.env = [(false, eval e X.env)] := by rfl) :
    PI X (.Tuple elts kk tpos) (.Call (.Name "enumerate" p) [e] [] pos) (iEnum X.K ta) := by
  intro pins s σ H R I h
  refine Call_ (ld_blt I hg hm boot_enumerate (PyProof.Rows.callWith_type1 (thn (ha pos pins s σ H _ I h) fun us s1 ⟨vs, H1, I1, r1, q1⟩ => ?_) hs rfl))
  obtain ⟨a, xs, ex, hq, q⟩ := q1
  subst ex
  cases r1 with
  | cons r rr =>
    cases rr
    cases r
    obtain ⟨its, rv, p', hz⟩ := I1.list hq
    refine call_enumerate_list p'.isList fun h' he hit hsz hk => wpAny_pyIter_enum he ?_
    have I2 : Inv X pins σ H1 { s1 with heap := h' } := I1.kept (t' := s1.toks) hk
    refine ⟨s1.heap.objs.size + 1, [s1.heap.objs.size + 1, s1.heap.objs.size], _, _, H1, rfl, I2, turn_enum a (s1.heap.objs.size + 1) s1.heap.objs.size, ⟨⟨.none, he⟩, hit, Nat.succ_ne_self _⟩, fun b hb => ?_, q⟩
    have e' : b = s1.heap.objs.size + 1 ∨ b = s1.heap.objs.size := by simpa using hb
    have hle : s1.heap.objs.size ≤ b := by
      rcases e' with z | z
      · rw [z]; exact Nat.le_add_right _ _
      · rw [z]; exact Nat.le_refl _
    exact I1.fpOk hle (I1.hok.fresh hle)
/-! ### zip(list, list) -/
/-- the lists at a and b as they stand at each turn, the items in new pairs -/
def Itz (K : PySem.W.Frag) (a b : Addr) : It :=
  ⟨fun i H => ∃ (xs ys : List V) (x y : V), SqL K H a xs ∧ SqL K H b ys ∧ xs[i]? = some x ∧ ys[i]? = some y,
    fun i H v H' => ∃ T x y, v = .ref T ∧ H T = none ∧ H' = upd H T (.tup [x, y]) ∧ (∀ xs, SqL K H a xs → xs[i]? = some x) ∧ ∀ ys, SqL K H b ys → ys[i]? = some y,
    fun i H => ∃ xs ys : List V, SqL K H a xs ∧ SqL K H b ys ∧ (xs.length ≤ i ∨ ys.length ≤ i)⟩
def iZip (K : PySem.W.Frag) (ta : TA) : TI := fun σ H R => ta σ H fun vs H1 => ∃ a b xs ys, vs = [.ref a, .ref b] ∧ SqL K H1 a xs ∧ SqL K H1 b ys ∧ R (Itz K a b) H1
end L2
section 
namespace Bits
open PySem PyProof.Rows
end Bits
end 
section 
namespace TL
open PySem PySem.Builtin PySem.Builtin.Str PySem.StrLaws
abbrev tl (x : Str) : List Nat := x.cps.toList
theorem len_tl (x : Str) : x.length = (tl x).length := by simp [tl, Str.length]
theorem tl_append (x y : Str) : tl (x ++ y) = tl x ++ tl y := by
  show (x ++ y).cps.toList = _
  rw [Str.cps_append, Array.toList_append]
theorem tl_ofString (s : String) : tl (Str.ofString s) = s.toList.map Char.toNat := PyProof.Rows.signs_ofString s
/-! ### the list functions -/
/-- S stands at the head of l -/
def pre (S l : List Nat) : Bool := l.take S.length == S
/-- l cut at each S from the left; k signs are still to be passed over -/
def spl (S : List Nat) : Nat → List Nat → List Nat → List (List Nat)
  | _, acc, [] => [acc]
  | 0, acc, c :: r => if pre S (c :: r) = true then acc :: spl S (S.length - 1) [] r else spl S 0 (acc ++ [c]) r
  | k + 1, acc, _ :: r => spl S k acc r
/-- what stands before the first S, and behind it -/
def par (S : List Nat) : List Nat → List Nat → Option (List Nat × List Nat)
  | _, [] => none
  | acc, c :: r => if pre S (c :: r) = true then some (acc, (c :: r).drop S.length) else par S (acc ++ [c]) r
/-! ### the model's split and partition are these -/
/-! ### computing spl and par -/
/-- joined lists -/
def joinL (S : List Nat) : List (List Nat) → List Nat
  | [] => []
  | [p] => p
  | p :: q :: r => p ++ (S ++ joinL S (q :: r))
/-! ### digits -/
/-- the signs of a number -/
def numL (n : Nat) : List Nat := (Nat.toDigits 10 n).map Char.toNat
theorem tl_num (n : Nat) : tl (Str.ofString (toString ((n : Nat) : Int))) = numL n := PySem.W.KIN.signs_num n
theorem numL_len {n k : Nat} (hk : 0 < k) (h : n < 10 ^ k) : (numL n).length ≤ k := by
  have z := PyProof.Rows.toString_length_le (v := (n : Int)) (by omega) hk (by
    have e : ((10 : Int) ^ k) = ((10 ^ k : Nat) : Int) := by
      first
        | exact (Int.natCast_pow 10 k).symm
        | simp
    rw [e]
    first | exact Int.ofNat_lt.mpr h | omega)
  rw [len_tl, tl_num] at z
  exact z
/-! ### words: x.split() -/
def wstep (st : List (List Nat) × List Nat) (c : Nat) : List (List Nat) × List Nat :=
  if Unicode.isSpace c = true then (if st.2 = [] then st else (st.1 ++ [st.2], [])) else (st.1, st.2 ++ [c])
def wfin (st : List (List Nat) × List Nat) : List (List Nat) := if st.2 = [] then st.1 else st.1 ++ [st.2]
end TL
end 
namespace L2
open PySem PySem.Spec PyProof.Rows
/-- a new list of texts, tracked -/
def rNewStrs (ys : List Str) : Hp → VK → Prop := fun H Q => ∀ p, H p = none → Q (.ref p) (upd H p (.lst (ys.map V.str)))
section
variable {X : Cx} {pins : List (Addr × Obj)} {σ : St} {H : Hp} {s : Shared} {Q : VK}
end
section
variable {X : Cx}
/-! ### of a text alone -/
/-! ### of a text and a text -/
end
section
variable {X : Cx} {o e : Expr} {to te : TE}
def tM0 (r : V → List V → Hp → VK → Prop) (to : TE) : TE := fun σ H Q => to σ H fun x H1 => (∃ a, x = .str a) ∧ r x [] H1 Q
def tM1 (r : V → List V → Hp → VK → Prop) (to te : TE) : TE := fun σ H Q => to σ H fun x H1 => (∃ a, x = .str a) ∧ te σ H1 fun y H2 => r x [y] H2 Q
end
end L2
namespace L2
open PySem PySem.Spec PyProof.Rows
section
variable {X : Cx}
end
/-! ### slices of a text -/
/-- a part, clipped, as the text's slice reckons it -/
def clipS (n d : Nat) : Option Int → Int
  | none => (d : Int)
  | some i => max 0 (min (if i < 0 then i + (n : Int) else i) (n : Int))
/-- z[lo:hi] -/
def cutS (z : Str) (lo hi : Option Int) : Str :=
  ⟨((z.cps.toList.drop (HT.sIx z.length 0 lo)).take (HT.sIx z.length z.length hi - HT.sIx z.length 0 lo)).toArray⟩
def rSlS : V → Option Int → Option Int → Hp → VK → Prop := fun x lo hi H Q => ∃ z, x = .str z ∧ z.length ≤ sizeLine ∧ Q (.str (cutS z lo hi)) H
end L2
namespace Att
open PySem PySem.W PySem.Calls PyProof.Rows
/-! ### the script -/
/-! ### the attachment: holds_open's last premise (the goal 'hc' behind k_head) from a wpAny of the law's body -/
/-! ### rules over ANY heap (no ledger) from facts about the written part K: the library's own take a ledger (News) for what they write -/
section
variable {prog : Program} {w : World} {A : Around} {E : Value → Shared → Prop} {s : Shared} {K : Frag}
/-! the whole heap as the ledger: makes every rule that writes through a ledger a rule over any heap -/
def noObjs (h : Heap) : Heap := { h with objs := #[] }
def ledger (h : Heap) (L d : Addr) : List (Addr × Obj) := (List.range h.objs.size).filterMap fun a => if a = L ∨ a = d then none else (h.get? a).map fun o => (a, o)
end
end Att
namespace L2
open PySem PySem.Spec PyProof.Rows
/-- nothing is tracked but the script, known to the object (or it is an object of the module) -/
def Only (H : Hp) : Prop := ∀ b, H b = none ∨ ∃ o xs, H b = some (.frz o (.lst xs))
end L2
namespace L2
open PySem PySem.Spec PyProof.Rows
abbrev KOf {K : PySem.W.Frag} {h : Heap} (_ : K.In h) : PySem.W.Frag := K
end L2
/-! SHORT WORDS over the layer: a def of the text, its body, what a loop and a test want. -/
namespace L2
open PySem PySem.Spec PyProof.Rows
/-! ### the text by places -/
/-- the j-th statement of a class's body -/
def inClass (s : Stmt) (j : Nat) : Stmt := match s with
  | .ClassDef _ _ _ body _ _ _ _ _ _ _ => body.getD j (.Pass ⟨0, 0, 0, 0⟩)
  | _ => .Pass ⟨0, 0, 0, 0⟩
def defArgs (s : Stmt) : Arguments := match s with
  | .FunctionDef _ a _ _ _ _ _ _ _ _ => a
  | _ => { posonlyargs := [], args := [], vararg := none, kwonlyargs := [], kw_defaults := [], kwarg := none, defaults := [] }
def defBody (s : Stmt) : List Stmt := match s with
  | .FunctionDef _ _ b _ _ _ _ _ _ _ => b
  | _ => []
def defScope (s : Stmt) : Scope := match s with
  | .FunctionDef _ _ _ _ _ _ sc _ _ _ => sc
  | _ => { kind := .function, names := [], isGenerator := false, isCoroutine := false }
/-! ### no exception leaves a def -/
abbrev CX0 : CXT := fun _ _ _ _ _ _ => False
abbrev E0 : XK := fun _ _ _ => False
theorem pass0 {X : Cx} : Passes CX0 X E0 := fun _ _ _ _ _ _ _ h => h.elim
/-! ### a def (or method) of the text as it stands behind the top -/
structure Fun (K : PySem.W.Frag) (x qual : Str) (st : Stmt) (f : Addr) (fd : FuncData) : Prop where
  ex : ∃ (oc : Value) (od : Option Addr) (kV doc pm : Value) (an : Option Addr) (cdv ct : Value) (osl : Array (Option Value)),
    fd = PySem.W.fnOf x qual (defArgs st) (defBody st) (defScope st) .none kV doc pm an cdv ct ∧ K.lookup f = some ⟨oc, od, .func fd, osl⟩ ∧ PySem.W.codeIn K cdv qual = true
  kp : PySem.W.keepIn K (.ref f) = true
section
variable {P : Program} {w : World} {K : PySem.W.Frag} {mg : Str → Option Value} {base : Heap}
/-- THE RULE for a def: its body as a term of rules, and the reading of that term -/
theorem Fun.ok {x qual : Str} {st : Stmt} {f : Addr} {fd : FuncData} {N ps : List Str} {k : Nat} {sp : Sp} (F : Fun K x qual st f fd) (S : FnScope N ps (defScope st)) (len : ∀ vs H Q E, sp vs H Q E → vs.length = ps.length)
    (hbody : ∀ (cdv : Value) (A : Around) (outer : List Env) (s : Shared) (H : Hp) (vs : List V) (Q : VK) (E : XK), Room k (A.deeper (envOfC qual (defScope st) s.heap.objs.size f cdv)) → sp vs H Q E →
      ∃ t, PSs (cxOf CX0 P w K mg base N qual (defScope st) f cdv A outer s H E).nox (defBody st) t ∧ t { nx := fun _ H' => Q .non H', rt := Q } (start N vs) H) : FnOk P w K mg base CX0 (k + 1) f fd ps sp := by
  obtain ⟨oc, od, kV, doc, pm, an, cdv, ct, osl, rfl, lk, hcd⟩ := F.ex
  refine fn_of lk hcd S len fun A outer s H vs Q E hr hsp => ?_
  obtain ⟨t, h, q⟩ := hbody cdv A outer s H vs Q E hr hsp
  exact ⟨t, h.nox, q⟩
/-- how its arguments bind (no defaults): h is «fun _ _ _ _ _ _ us hl => match us, hl with | [_, _], _ => rfl», one _ a parameter -/
theorem Fun.binds {x qual : Str} {st : Stmt} {f : Addr} {fd : FuncData} {ps : List Str} (F : Fun K x qual st f fd)
    (h : ∀ (kV doc pm : Value) (an : Option Addr) (cdv ct : Value) (us : List Value), us.length = ps.length → bindArgs (PySem.W.fnOf x qual (defArgs st) (defBody st) (defScope st) .none kV doc pm an cdv ct) ⟨us, []⟩ = pure (ps.zip us)) : Binds K fd ps [] := by
  obtain ⟨oc, od, kV, doc, pm, an, cdv, ct, osl, rfl, lk, hcd⟩ := F.ex
  exact .all (h kV doc pm an cdv ct)
theorem fun_mk {x qual : Str} {st : Stmt} {f : Addr} {oc : Value} {od an : Option Addr} {osl : Array (Option Value)} {kV doc pm cdv ct : Value} (l : K.lookup f = some ⟨oc, od, .func (PySem.W.fnOf x qual (defArgs st) (defBody st) (defScope st) .none kV doc pm an cdv ct), osl⟩)
    (c : PySem.W.codeIn K cdv qual = true) (k : PySem.W.keepIn K (.ref f) = true) : Fun K x qual st f (PySem.W.fnOf x qual (defArgs st) (defBody st) (defScope st) .none kV doc pm an cdv ct) := ⟨⟨oc, od, kV, doc, pm, an, cdv, ct, osl, rfl, l, c⟩, k⟩
end
/-! ### expressions in short: the name that stands in the i-th slot -/
section
variable {X : Cx}
theorem pv (i : Nat) {x : Str} {pos : Pos} (hN : X.N[i]? = some x := by rfl) (hv : Vis X.env.scope x := by first | exact Or.inl rfl | exact Or.inr (Or.inl rfl) | exact Or.inr (Or.inr rfl)) (hd : (x == ("__debug__" : Str)) = false := by decide)
    (hcd : (x == ("__classdict__" : Str)) = false := by decide) : PE X (.Name x pos) (tVar i) := pe_var hN hv hd hcd
end
/-! ### tests -/
theorem iteF {A B : Prop} (h : B) : if false = true then A else B := by
  rw [if_neg Bool.false_ne_true]
  exact h
theorem iteT {A B : Prop} (h : A) : if true = true then A else B := by
  rw [if_pos rfl]
  exact h
theorem iteNS {c A B : Prop} [Decidable c] (hc : c) (h : B) : if (!decide c) = true then A else B := by
  rw [decide_eq_true hc]
  exact iteF h
/-! ### heaps -/
/-- all that was tracked is as it was -/
def Same (H H' : Hp) : Prop := ∀ b o, H b = some o → H' b = some o
theorem Same.trans {H H1 H2 : Hp} (a : Same H H1) (b : Same H1 H2) : Same H H2 := fun c o h => b c o (a c o h)
theorem Same.free {H H' : Hp} (e : Same H H') {l : Addr} (h : H' l = Option.none) : H l = Option.none := by
  cases q : H l with
  | none => rfl
  | some o =>
    rw [e l o q] at h
    cases h
theorem Same.seq {K : PySem.W.Frag} {H H' : Hp} {a : Addr} {xs : List V} (e : Same H H') (h : SqL K H a xs) : SqL K H' a xs := by
  rcases h with (h | ⟨o, h⟩) | h
  · exact .inl (.inl (e _ _ h))
  · exact .inl (.inr ⟨o, e _ _ h⟩)
  · exact .inr h
/-! ### a dict's pairs: keys that differ -/
section
variable {κ : Type} [DecidableEq κ]
end
/-! ### lists -/
theorem at_of {xs : List V} {z : Int} {j : Nat} {v : V} (e : z = (j : Int)) (h : xs[j]? = some v) : atI xs z = some v := by
  rw [e]
  exact atI_nat h
/-- a new instance and its __init__ leave all that was tracked as it was -/
theorem Same.made {H H1 : Hp} {x dx C : Addr} (nx : H x = Option.none) (nd : H dx = Option.none) (k : ∀ b o, (upd (upd H dx (.own x)) x (.ins C dx [])) b = some o → b ≠ x → H1 b = some o) : Same H H1 := fun b o e =>
  k b o (by rw [upd_ne (ne_of_none e nx), upd_ne (ne_of_none e nd)]; exact e) (ne_of_none e nx)
end L2
section
set_option Elab.async false
set_option linter.all false
set_option maxRecDepth 100000
set_option maxHeartbeats 2000000
namespace L2
open PySem PySem.Spec PyProof.Rows
open PySem.W (WData Codec OpenSpec Well WellAll ReadsW ReadsAllW)
/-! ### an answer as data -/
mutual
/-- x stands for the datum d, lists and tuples all the way -/
inductive Dw (K : PySem.W.Frag) (H : Hp) : V → WData → Prop
  | non : Dw K H .non .none
  | bl (b : Bool) : Dw K H (.bl b) (.bool b)
  | int (i : Int) : Dw K H (.int i) (.int i)
  | str (x : Str) : Dw K H (.str x) (.str x)
  | byt (b : Array UInt8) : Dw K H (.byt b) (.bytes b.toList)
  | lst {a : Addr} {xs : List V} {ds : List WData} : SqL K H a xs → DwAll K H xs ds → Dw K H (.ref a) (.list ds)
  | tup {a : Addr} {xs : List V} {ds : List WData} : SqT K H a xs → DwAll K H xs ds → Dw K H (.ref a) (.tuple ds)
inductive DwAll (K : PySem.W.Frag) (H : Hp) : List V → List WData → Prop
  | nil : DwAll K H [] []
  | cons {v : V} {vs : List V} {d : WData} {ds : List WData} : Dw K H v d → DwAll K H vs ds → DwAll K H (v :: vs) (d :: ds)
end
theorem dw_ints {K : PySem.W.Frag} {H : Hp} : ∀ ns : List Int, DwAll K H (ns.map V.int) (ns.map WData.int)
  | [] => .nil
  | n :: r => .cons (.int n) (dw_ints r)
theorem ints_dw {K : PySem.W.Frag} {H : Hp} : ∀ (ns : List Int) (xs : List V), DwAll K H xs (ns.map WData.int) → xs = ns.map V.int
  | [], xs, h => by
    cases h
    rfl
  | n :: r, xs, h => by
    cases h with
    | cons h1 h2 =>
      cases h1
      rw [ints_dw r _ h2] <;> rfl
section
variable {P : Program} {w : World} {K : PySem.W.Frag} {H : Hp} {h : Heap} {R : PySem.W.WRecords} {cl : Str → Option Addr}
theorem sqL_at {a : Addr} {xs : List V} (hok : HOk P w H h) (KX : K.In h) (q : SqL K H a xs) : ∃ (its : List Value) (o : Obj) (n : Nat), Vals xs its ∧ h.get? a = some o ∧ o.cls = .type "list" ∧ o.data = .seq its.toArray n := by
  rcases q with q | ⟨o, its, n, e, hc, _, hd, _, hv⟩
  · obtain ⟨_, its, n, hv, e⟩ := (show ObjOk P w H h a (.lst xs) from q.ok hok)
    exact ⟨its, _, n, hv, e, rfl, rfl⟩
  · exact ⟨its.toList, o, n, hv, KX _ _ e, hc, by simp [hd]⟩
theorem sqT_at {a : Addr} {xs : List V} (hok : HOk P w H h) (KX : K.In h) (q : SqT K H a xs) : ∃ (its : List Value) (o : Obj) (n : Nat), Vals xs its ∧ h.get? a = some o ∧ o.cls = .type "tuple" ∧ o.data = .seq its.toArray n := by
  rcases q with q | ⟨o, its, n, e, hc, hd, _, hv⟩
  · obtain ⟨_, its, hv, o, e, hc, n, hd⟩ := (show ObjOk P w H h a (.tup xs) from q.ok hok)
    exact ⟨its, o, n, hv, e, hc, hd⟩
  · exact ⟨its.toList, o, n, hv, KX _ _ e, hc, by simp [hd]⟩
mutual
theorem Dw.reads (hok : HOk P w H h) (KX : K.In h) : ∀ (d : WData) (v : V) (u : Value), Dw K H v d → RelV v u → ∃ as, ReadsW R cl h u d as
  | .none, _, _, x, r => by
    cases x
    cases r
    exact ⟨_, ReadsW.none⟩
  | .bool b, _, _, x, r => by
    cases x
    cases r
    exact ⟨_, ReadsW.bool b⟩
  | .int i, _, _, x, r => by
    cases x
    obtain ⟨t, rfl⟩ := r
    exact ⟨_, ReadsW.int i t⟩
  | .str s, _, _, x, r => by
    cases x
    obtain ⟨t, rfl⟩ := r
    exact ⟨_, ReadsW.str s t⟩
  | .bytes b, _, _, x, r => by
    cases x
    obtain ⟨t, rfl⟩ := r
    exact ⟨_, ReadsW.bytes _ t⟩
  | .list ds, _, _, x, r => by
    cases x with
    | lst hs ha =>
      cases r
      obtain ⟨its, o, n, rv, ho, hc, hd⟩ := sqL_at hok KX hs
      obtain ⟨as, hr⟩ := Dw.readsAll hok KX ds _ its ha rv
      exact ⟨_, ReadsW.list ho hc hd hr⟩
  | .tuple ds, _, _, x, r => by
    cases x with
    | tup hs ha =>
      cases r
      obtain ⟨its, o, n, rv, ho, hc, hd⟩ := sqT_at hok KX hs
      obtain ⟨as, hr⟩ := Dw.readsAll hok KX ds _ its ha rv
      exact ⟨_, ReadsW.tuple ho hc hd hr⟩
  | .float _, _, _, x, _ => by cases x
  | .dict _, _, _, x, _ => by cases x
  | .bytearray _, _, _, x, _ => by cases x
  | .set _, _, _, x, _ => by cases x
  | .frozenset _, _, _, x, _ => by cases x
  | .obj _ _, _, _, x, _ => by cases x
theorem Dw.readsAll (hok : HOk P w H h) (KX : K.In h) : ∀ (ds : List WData) (vs : List V) (us : List Value), DwAll K H vs ds → Vals vs us → ∃ as, ReadsAllW R cl h us ds as
  | [], _, _, x, r => by
    cases x
    cases r
    exact ⟨_, ReadsAllW.nil⟩
  | d :: ds, _, _, x, r => by
    cases x with
    | cons h1 h2 =>
      cases r with
      | cons r1 r2 =>
        obtain ⟨as, q1⟩ := Dw.reads hok KX d _ _ h1 r1
        obtain ⟨bs, q2⟩ := Dw.readsAll hok KX ds _ _ h2 r2
        exact ⟨_, ReadsAllW.cons q1 q2⟩
end
end
/-! ### the arguments -/
mutual
/-- data that a codec tells -/
def plW : WData → Bool
  | .none => true
  | .bool _ => true
  | .int _ => true
  | .str _ => true
  | .bytes _ => true
  | .list xs => plWs xs
  | .tuple xs => plWs xs
  | _ => false
def plWs : List WData → Bool
  | [] => true
  | x :: r => plW x && plWs r
end
theorem plWs_map {α : Type} {f : α → WData} (h : ∀ a, plW (f a) = true) : ∀ l : List α, plWs (l.map f) = true
  | [] => rfl
  | x :: r => by
    show (plW (f x) && plWs (r.map f)) = true
    rw [h x, plWs_map h r] <;> rfl
theorem pl_enc : ∀ (c : Codec) (a : c.denote), plW (c.enc a) = true
  | .unit, _ => rfl
  | .bool, _ => rfl
  | .int _ _, _ => rfl
  | .nat _ _, _ => rfl
  | .u8, _ => rfl
  | .bytes _ _, _ => rfl
  | .text _ _ _ _, _ => rfl
  | .list _ _ c, a => plWs_map (fun x => pl_enc c x) a
  | .pair c d, a => by
    show (plW (c.enc a.1) && (plW (d.enc a.2) && true)) = true
    rw [pl_enc c a.1, pl_enc d a.2] <;> rfl
  | .triple c d e, a => by
    show (plW (c.enc a.1) && (plW (d.enc a.2.1) && (plW (e.enc a.2.2) && true))) = true
    rw [pl_enc c a.1, pl_enc d a.2.1, pl_enc e a.2.2] <;> rfl
  | .option c, none => rfl
  | .option c, some x => pl_enc c x
theorem pl_encAll : ∀ (cs : List Codec) (a : Codec.denoteAll cs), plWs (Codec.encAll cs a) = true
  | [], _ => rfl
  | c :: cs, a => by
    show (plW (c.enc a.1) && plWs (Codec.encAll cs a.2)) = true
    rw [pl_enc c a.1, pl_encAll cs a.2] <;> rfl
theorem weight_mem : ∀ {xs : List WData} {d : WData}, d ∈ xs → d.weight ≤ WData.weightAll xs
  | [], d, h => absurd h (by simp)
  | x :: r, d, h => by
    show d.weight ≤ x.weight + 1 + WData.weightAll r
    rcases List.mem_cons.mp h with e | m
    · rw [e]
      omega
    · have z := weight_mem m
      omega
def toV : Value → V
  | .none => .non
  | .bool b => .bl b
  | .int i _ => .int i
  | .str x _ => .str x
  | .bytes b _ => .byt b
  | .ref a => .ref a
  | _ => .non
/-- a value of the arguments, its objects among A -/
def OkU (A : List Addr) : Value → Prop
  | .none => True
  | .bool _ => True
  | .int _ _ => True
  | .str _ _ => True
  | .bytes _ _ => True
  | .ref a => a ∈ A
  | _ => False
theorem OkU.mono {A B : List Addr} (h : ∀ a ∈ A, a ∈ B) : ∀ {u : Value}, OkU A u → OkU B u := fun {u} x => by
  cases u with
  | ref a => exact h a x
  | none => trivial
  | bool b => trivial
  | int i t => trivial
  | str s t => trivial
  | bytes b t => trivial
  | _ => exact False.elim x
theorem relV_toV {A : List Addr} {u : Value} (x : OkU A u) : RelV (toV u) u := by
  cases u with
  | ref a => rfl
  | none => rfl
  | bool b => rfl
  | int i t => exact ⟨t, rfl⟩
  | str s t => exact ⟨t, rfl⟩
  | bytes b t => exact ⟨t, rfl⟩
  | _ => exact False.elim x
theorem vals_toV {A : List Addr} : ∀ {vs : List Value}, (∀ u ∈ vs, OkU A u) → Vals (vs.map toV) vs
  | [], _ => .nil
  | u :: r, h => .cons (relV_toV (h u (List.mem_cons_self ..))) (vals_toV fun x hx => h x (List.mem_cons_of_mem _ hx))
/-- an object of the arguments -/
def ArgOb (h : Heap) (A : List Addr) (a : Addr) : Prop := ∃ vs : List Value, vs.length ≤ sizeLine ∧ (∀ u ∈ vs, OkU A u) ∧
  (h.get? a = some { cls := .type "list", data := .seq vs.toArray } ∨ h.get? a = some { cls := .type "tuple", data := .seq vs.toArray })
theorem ArgOb.mono {h : Heap} {A B : List Addr} {a : Addr} (k : ∀ a ∈ A, a ∈ B) (x : ArgOb h A a) : ArgOb h B a := by
  obtain ⟨vs, h1, h2, h3⟩ := x
  exact ⟨vs, h1, fun u hu => (h2 u hu).mono k, h3⟩
theorem wellAll_len {P : Params} {h : Heap} : ∀ {vs : List Value} {ds : List WData}, WellAll P h vs ds → vs.length = ds.length
  | _, _, .nil => rfl
  | _, _, .cons _ b => by
    show _ + 1 = _ + 1
    rw [wellAll_len b]
theorem well_list {P : Params} {h : Heap} {v : Value} {ds : List WData} (x : Well P h v (.list ds)) : ∃ (a : Addr) (vs : List Value), v = .ref a ∧ h.get? a = some { cls := .type "list", data := .seq vs.toArray } ∧ WellAll P h vs ds := by
  cases x with
  | list ho hall => exact ⟨_, _, rfl, ho, hall⟩
theorem well_tuple {P : Params} {h : Heap} {v : Value} {ds : List WData} (x : Well P h v (.tuple ds)) : ∃ (a : Addr) (vs : List Value), v = .ref a ∧ h.get? a = some { cls := .type "tuple", data := .seq vs.toArray } ∧ WellAll P h vs ds := by
  cases x with
  | tuple ho hall => exact ⟨_, _, rfl, ho, hall⟩
theorem well_cons {P : Params} {h : Heap} {us : List Value} {d : WData} {ds : List WData} (x : WellAll P h us (d :: ds)) : ∃ (v : Value) (vs : List Value), us = v :: vs ∧ Well P h v d ∧ WellAll P h vs ds := by
  cases x with
  | cons a b => exact ⟨_, _, rfl, a, b⟩
theorem line_of {n : Nat} (h : n ≤ 1048576) : n ≤ sizeLine := Nat.le_trans h (by decide)
section
variable {P : Params} {h : Heap}
mutual
theorem area_one : ∀ (d : WData) (v : Value), Well P h v d → plW d = true → d.weight ≤ 1048576 → ∃ A : List Addr, OkU A v ∧ ∀ a ∈ A, ArgOb h A a
  | .none, _, x, _, _ => by
    cases x
    exact ⟨[], trivial, fun a m => absurd m (by simp)⟩
  | .bool b, _, x, _, _ => by
    cases x
    exact ⟨[], trivial, fun a m => absurd m (by simp)⟩
  | .int i, _, x, _, _ => by
    cases x
    exact ⟨[], trivial, fun a m => absurd m (by simp)⟩
  | .str s, _, x, _, _ => by
    cases x
    exact ⟨[], trivial, fun a m => absurd m (by simp)⟩
  | .bytes b, _, x, _, _ => by
    cases x
    exact ⟨[], trivial, fun a m => absurd m (by simp)⟩
  | .list ds, _, x, p, z => by
    obtain ⟨a, vs, rfl, ho, hall⟩ := well_list x
    have z2 : WData.weightAll ds ≤ 1048576 := z
    obtain ⟨A, h1, h2⟩ := area_all ds _ hall p fun d hd => Nat.le_trans (weight_mem hd) z2
    have k : ∀ b ∈ A, b ∈ a :: A := fun b hb => List.mem_cons_of_mem _ hb
    refine ⟨a :: A, List.mem_cons_self .., fun b hb => ?_⟩
    rcases List.mem_cons.mp hb with e | m
    · rw [e]
      exact ⟨vs, line_of (by rw [wellAll_len hall]; exact Nat.le_trans (PySem.W.length_le_weightAllW ds) z2), fun u hu => (h1 u hu).mono k, .inl ho⟩
    · exact (h2 b m).mono k
  | .tuple ds, _, x, p, z => by
    obtain ⟨a, vs, rfl, ho, hall⟩ := well_tuple x
    have z2 : WData.weightAll ds ≤ 1048576 := z
    obtain ⟨A, h1, h2⟩ := area_all ds _ hall p fun d hd => Nat.le_trans (weight_mem hd) z2
    have k : ∀ b ∈ A, b ∈ a :: A := fun b hb => List.mem_cons_of_mem _ hb
    refine ⟨a :: A, List.mem_cons_self .., fun b hb => ?_⟩
    rcases List.mem_cons.mp hb with e | m
    · rw [e]
      exact ⟨vs, line_of (by rw [wellAll_len hall]; exact Nat.le_trans (PySem.W.length_le_weightAllW ds) z2), fun u hu => (h1 u hu).mono k, .inr ho⟩
    · exact (h2 b m).mono k
  | .float _, _, _, p, _ => Bool.noConfusion (show false = true from p)
  | .dict _, _, _, p, _ => Bool.noConfusion (show false = true from p)
  | .bytearray _, _, _, p, _ => Bool.noConfusion (show false = true from p)
  | .set _, _, _, p, _ => Bool.noConfusion (show false = true from p)
  | .frozenset _, _, _, p, _ => Bool.noConfusion (show false = true from p)
  | .obj _ _, _, _, p, _ => Bool.noConfusion (show false = true from p)
theorem area_all : ∀ (ds : List WData) (vs : List Value), WellAll P h vs ds → plWs ds = true → (∀ d ∈ ds, d.weight ≤ 1048576) → ∃ A : List Addr, (∀ u ∈ vs, OkU A u) ∧ ∀ a ∈ A, ArgOb h A a
  | [], _, x, _, _ => by
    cases x
    exact ⟨[], fun u m => absurd m (by simp), fun a m => absurd m (by simp)⟩
  | d :: ds, _, x, p, z => by
    obtain ⟨v, vs, rfl, x1, x2⟩ := well_cons x
    have q : plW d = true ∧ plWs ds = true := Bool.and_eq_true_iff.mp p
    obtain ⟨A, a1, a2⟩ := area_one d v x1 q.1 (z d (List.mem_cons_self ..))
    obtain ⟨B, b1, b2⟩ := area_all ds vs x2 q.2 fun e he => z e (List.mem_cons_of_mem _ he)
    have kA : ∀ b ∈ A, b ∈ A ++ B := fun b hb => List.mem_append.mpr (.inl hb)
    have kB : ∀ b ∈ B, b ∈ A ++ B := fun b hb => List.mem_append.mpr (.inr hb)
    refine ⟨A ++ B, fun u hu => ?_, fun b hb => ?_⟩
    · rcases List.mem_cons.mp hu with e | m
      · rw [e]
        exact a1.mono kA
      · exact (b1 u m).mono kB
    · rcases List.mem_append.mp hb with m | m
      · exact (a2 b m).mono kA
      · exact (b2 b m).mono kB
end
end
/-- what is tracked of an argument's object -/
def hoOf (o : Obj) : Option HO := match o.data with
  | .seq vs _ => if (o.cls == Value.type "list") = true then some (.frz o (.lst (vs.toList.map toV))) else some (.frz o (.tup (vs.toList.map toV)))
  | _ => none
def argH (K : PySem.W.Frag) (h : Heap) (A : List Addr) : Hp := fun b => if b ∈ A then (if (K.lookup b).isNone = true then (h.get? b).bind hoOf else none) else none
/-- nothing is tracked but what is known to the object -/
def OnlyF (H : Hp) : Prop := ∀ b, H b = none ∨ ∃ o u, H b = some (.frz o u)
theorem hoOf_lst (vs : List Value) : hoOf { cls := .type "list", data := .seq vs.toArray } = some (.frz { cls := .type "list", data := .seq vs.toArray } (.lst (vs.map toV))) := by
  show (if (Value.type "list" == Value.type "list") = true then some (HO.frz { cls := .type "list", data := .seq vs.toArray } (.lst (vs.toArray.toList.map toV))) else some (HO.frz { cls := .type "list", data := .seq vs.toArray } (.tup (vs.toArray.toList.map toV)))) = _
  rw [if_pos (beq_self_eq_true _)]
theorem hoOf_tup (vs : List Value) : hoOf { cls := .type "tuple", data := .seq vs.toArray } = some (.frz { cls := .type "tuple", data := .seq vs.toArray } (.tup (vs.map toV))) := by
  show (if (Value.type "tuple" == Value.type "list") = true then some (HO.frz { cls := .type "tuple", data := .seq vs.toArray } (.lst (vs.toArray.toList.map toV))) else some (HO.frz { cls := .type "tuple", data := .seq vs.toArray } (.tup (vs.toArray.toList.map toV)))) = _
  rw [if_neg (by decide)]
section
variable {P : Program} {w : World} {K : PySem.W.Frag} {h : Heap} {A : List Addr}
theorem argH_at {b : Addr} {o : Obj} (hb : b ∈ A) (hk : K.lookup b = none) (e : h.get? b = some o) : argH K h A b = hoOf o := by
  unfold argH
  rw [if_pos hb, hk, if_pos (show (none : Option Obj).isNone = true from rfl), e] <;> rfl
theorem of_argH {b : Addr} {u : HO} (q : argH K h A b = some u) : b ∈ A ∧ K.lookup b = none := by
  unfold argH at q
  by_cases hb : b ∈ A
  · rw [if_pos hb] at q
    cases hk : K.lookup b with
    | none => exact ⟨hb, rfl⟩
    | some o =>
      rw [hk, if_neg (by simp)] at q
      cases q
  · rw [if_neg hb] at q
    cases q
/-- what stands tracked -/
theorem argH_is (ar : ∀ a ∈ A, ArgOb h A a) {b : Addr} {u : HO} (q : argH K h A b = some u) : K.lookup b = none ∧ ∃ vs : List Value, vs.length ≤ sizeLine ∧ (∀ u ∈ vs, OkU A u) ∧
    ((h.get? b = some { cls := .type "list", data := .seq vs.toArray } ∧ u = .frz { cls := .type "list", data := .seq vs.toArray } (.lst (vs.map toV))) ∨
     (h.get? b = some { cls := .type "tuple", data := .seq vs.toArray } ∧ u = .frz { cls := .type "tuple", data := .seq vs.toArray } (.tup (vs.map toV)))) := by
  obtain ⟨hb, hk⟩ := of_argH q
  obtain ⟨vs, h1, h2, h3⟩ := ar b hb
  refine ⟨hk, vs, h1, h2, ?_⟩
  rcases h3 with e | e
  · rw [argH_at hb hk e, hoOf_lst] at q
    exact .inl ⟨e, (Option.some.inj q).symm⟩
  · rw [argH_at hb hk e, hoOf_tup] at q
    exact .inr ⟨e, (Option.some.inj q).symm⟩
theorem argH_only (ar : ∀ a ∈ A, ArgOb h A a) : OnlyF (argH K h A) := fun b => by
  cases q : argH K h A b with
  | none => exact .inl rfl
  | some u =>
    obtain ⟨_, vs, _, _, ⟨_, e⟩ | ⟨_, e⟩⟩ := argH_is ar q
    · exact .inr ⟨_, _, by rw [e]⟩
    · exact .inr ⟨_, _, by rw [e]⟩
theorem argH_ok (ar : ∀ a ∈ A, ArgOb h A a) : HOk P w (argH K h A) h := fun b u q => by
  obtain ⟨_, vs, h1, h2, ⟨e, rfl⟩ | ⟨e, rfl⟩⟩ := argH_is ar q
  · exact ⟨e, by rw [List.length_map]; exact h1, vs, _, vals_toV h2, e⟩
  · exact ⟨e, by rw [List.length_map]; exact h1, vs, vals_toV h2, _, e, rfl, _, rfl⟩
theorem seq_inj {c c' : Value} {vs us : List Value} (e : (some { cls := c, data := .seq vs.toArray } : Option Obj) = some { cls := c', data := .seq us.toArray }) : c = c' ∧ vs = us := by
  have e1 := Option.some.inj e
  have e2 : c = c' := congrArg Obj.cls e1
  have e3 : Data.seq vs.toArray = Data.seq us.toArray := congrArg Obj.data e1
  injection e3 with e4
  refine ⟨e2, ?_⟩
  have e5 := congrArg Array.toList e4
  simpa using e5
/-- a list argument -/
theorem argL (KX : K.In h) (ar : ∀ a ∈ A, ArgOb h A a) {a : Addr} {vs : List Value} (ha : a ∈ A) (e : h.get? a = some { cls := .type "list", data := .seq vs.toArray }) : (∀ u ∈ vs, OkU A u) ∧ SqL K (argH K h A) a (vs.map toV) := by
  obtain ⟨us, h1, h2, h3⟩ := ar a ha
  have hu : us = vs := by
    rcases h3 with q | q
    · rw [e] at q
      exact (seq_inj q).2.symm
    · rw [e] at q
      exact absurd (Value.type.inj (seq_inj q).1) (by decide)
  subst hu
  refine ⟨h2, ?_⟩
  cases hk : K.lookup a with
  | none => exact .inl (.inr ⟨_, by rw [argH_at ha hk e, hoOf_lst]⟩)
  | some o =>
    have e2 := KX a o hk
    rw [e] at e2
    obtain rfl := Option.some.inj e2
    exact .inr ⟨_, us.toArray, _, hk, rfl, rfl, rfl, by rw [List.size_toArray]; exact h1, by simpa using vals_toV h2⟩
theorem argT (KX : K.In h) (ar : ∀ a ∈ A, ArgOb h A a) {a : Addr} {vs : List Value} (ha : a ∈ A) (e : h.get? a = some { cls := .type "tuple", data := .seq vs.toArray }) : (∀ u ∈ vs, OkU A u) ∧ SqT K (argH K h A) a (vs.map toV) := by
  obtain ⟨us, h1, h2, h3⟩ := ar a ha
  have hu : us = vs := by
    rcases h3 with q | q
    · rw [e] at q
      exact absurd (Value.type.inj (seq_inj q).1) (by decide)
    · rw [e] at q
      exact (seq_inj q).2.symm
  subst hu
  refine ⟨h2, ?_⟩
  cases hk : K.lookup a with
  | none => exact .inl (.inr ⟨_, by rw [argH_at ha hk e, hoOf_tup]⟩)
  | some o =>
    have e2 := KX a o hk
    rw [e] at e2
    obtain rfl := Option.some.inj e2
    exact .inr ⟨_, us.toArray, _, hk, rfl, rfl, by rw [List.size_toArray]; exact h1, by simpa using vals_toV h2⟩
mutual
theorem dw_one {Pm : Params} (KX : K.In h) (ar : ∀ a ∈ A, ArgOb h A a) : ∀ (d : WData) (v : Value), Well Pm h v d → plW d = true → OkU A v → Dw K (argH K h A) (toV v) d
  | .none, _, x, _, _ => by
    cases x
    exact .non
  | .bool b, _, x, _, _ => by
    cases x
    exact .bl b
  | .int i, _, x, _, _ => by
    cases x
    exact .int i
  | .str s, _, x, _, _ => by
    cases x
    exact .str s
  | .bytes b, _, x, _, _ => by
    cases x
    have z := Dw.byt (K := K) (H := argH K h A) b.toArray
    exact z
  | .list ds, _, x, p, hu => by
    obtain ⟨a, vs, rfl, ho, hall⟩ := well_list x
    obtain ⟨h2, hs⟩ := argL KX ar hu ho
    exact .lst hs (dw_all KX ar ds _ hall p h2)
  | .tuple ds, _, x, p, hu => by
    obtain ⟨a, vs, rfl, ho, hall⟩ := well_tuple x
    obtain ⟨h2, hs⟩ := argT KX ar hu ho
    exact .tup hs (dw_all KX ar ds _ hall p h2)
  | .float _, _, _, p, _ => Bool.noConfusion (show false = true from p)
  | .dict _, _, _, p, _ => Bool.noConfusion (show false = true from p)
  | .bytearray _, _, _, p, _ => Bool.noConfusion (show false = true from p)
  | .set _, _, _, p, _ => Bool.noConfusion (show false = true from p)
  | .frozenset _, _, _, p, _ => Bool.noConfusion (show false = true from p)
  | .obj _ _, _, _, p, _ => Bool.noConfusion (show false = true from p)
theorem dw_all {Pm : Params} (KX : K.In h) (ar : ∀ a ∈ A, ArgOb h A a) : ∀ (ds : List WData) (vs : List Value), WellAll Pm h vs ds → plWs ds = true → (∀ u ∈ vs, OkU A u) → DwAll K (argH K h A) (vs.map toV) ds
  | [], _, x, _, _ => by
    cases x
    exact .nil
  | d :: ds, _, x, p, hu => by
    obtain ⟨v, vs, rfl, x1, x2⟩ := well_cons x
    have q : plW d = true ∧ plWs ds = true := Bool.and_eq_true_iff.mp p
    exact .cons (dw_one KX ar d v x1 q.1 (hu _ (List.mem_cons_self ..))) (dw_all KX ar ds vs x2 q.2 fun u m => hu u (List.mem_cons_of_mem _ m))
end
end
/-! ### the call -/
theorem spec_call {P : Program} {w : World} {K : PySem.W.Frag} {mg mb : Str → Option Value} {CX : CXT} {k : Nat} {fa : Addr} {fd : FuncData} {ps : List Str} {sp : Sp} {s₁ : Shared} {vals : List Value} {ds : List WData} {R : PySem.W.WRecords} {cl : Str → Option Addr} {d0 : WData}
    (KX : K.In s₁.heap) (hns : s₁.heap.Ns mainGlobals mg) (hb : s₁.heap.Ns builtinsNs mb) (hbb : ∀ x : Str, x ≠ "__name__" → mb x = bootBuiltins x) (hlim : s₁.heap.NoLimit) (hg : s₁.gens = #[])
    (hwl : WellAll w.params s₁.heap vals ds) (hpl : plWs ds = true) (hwt : ∀ d ∈ ds, d.weight ≤ 1048576) (hr : Room k callerA)
    (F : ∀ base : Heap, K.In base → base.Ns mainGlobals mg → FnOk P w K mg base CX k fa fd ps sp) (hbind : ∀ (s : Shared) (us : List Value), us.length = ps.length → BindsTo s fd ⟨us, []⟩ (ps.zip us)) (hlen : ds.length = ps.length)
    (hsp : ∀ (H : Hp) (xs : List V), OnlyF H → DwAll K H xs ds → sp xs H (fun v H' => Dw K H' v d0) fun _ _ _ => False)
    (hCX : ∀ H e s', CX [] H s₁ (fun _ _ _ => False) e s' → False) :
    codeAny (model P w) callerA (.call (.ref fa) ⟨vals, []⟩) (fun r s' => ∃ u as, r = .ok (.ret u) ∧ ReadsW R cl s'.heap u d0 as ∧ OldK s₁.heap s'.heap ∧ s'.os = s₁.os ∧ AllBare s'.gens) s₁ := by
  obtain ⟨A, ho, ar⟩ := area_all ds vals hwl hpl hwt
  have hO : OnlyF (argH K s₁.heap A) := argH_only ar
  have hok : HOk P w (argH K s₁.heap A) s₁.heap := argH_ok ar
  have hS := dw_all KX ar ds vals hwl hpl ho
  have hV := vals_toV ho
  have hK : ∀ b u, argH K s₁.heap A b = some u → K.lookup b = none := fun b u q => (argH_is ar q).1
  have noA : ∀ {b : Addr} {o : Obj} {es : Array DictEntry} {ep : Nat}, s₁.heap.get? b = some o → o.data = .dict es ep → argH K s₁.heap A b = none := fun {b o es ep} e d => by
    cases q : argH K s₁.heap A b with
    | none => rfl
    | some u =>
      obtain ⟨_, vs, _, _, ⟨e2, _⟩ | ⟨e2, _⟩⟩ := argH_is ar q
      · rw [e2] at e
        cases e
        have d' : Data.seq vs.toArray _ = Data.dict es ep := d
        cases d'
      · rw [e2] at e
        cases e
        have d' : Data.seq vs.toArray _ = Data.dict es ep := d
        cases d'
  generalize argH K s₁.heap A = H at hO hok hS hK noA
  have base_of : ∀ {b : Addr} {o : Obj}, s₁.heap.get? b = some o → H b = none → (hidT s₁.heap H).get? b = some o := fun e n => hidT_get e n
  have nsK : ∀ {b : Addr} {m : Str → Option Value}, s₁.heap.Ns b m → (hidT s₁.heap H).Ns b m := fun {b m} ⟨o, es, ep, e, d, r⟩ => ⟨o, es, ep, base_of e (noA e d), d, r⟩
  have nK : ∀ b o, K.lookup b = some o → H b = none := fun b o e => by
    cases q : H b with
    | none => rfl
    | some u =>
      rw [hK b u q] at e
      cases e
  have hKb : K.In (hidT s₁.heap H) := fun b o e => base_of (KX b o e) (nK b o e)
  have hM : Mod K mg (hidT s₁.heap H) := ⟨hKb, nsK hns, ⟨mb, nsK hb, hbb⟩, let ⟨mc, h1, h2⟩ := hlim; ⟨mc, nsK h1, h2⟩⟩
  have e0 : Env0 P w K mg (hidT s₁.heap H) callerA [] s₁ H := ⟨rfl, hM, fun b o e => of_hidT e, Nat.le_of_eq (hidT_size _ _), trivial, fun b hb => absurd (show b ∈ ([] : List Addr) from hb) (by simp), hok, .of_eq hg⟩
  have hl : vals.length = ps.length := by rw [wellAll_len hwl]; exact hlen
  refine codeAny_mono ((F _ hKb (nsK hns)).run callerA [] s₁ H ⟨vals, []⟩ vals (vals.map toV) _ _ hr e0 (hbind s₁ vals hl) hV (hsp H _ hO hS)) fun r s' x => ?_
  cases r with
  | error e => exact (hCX H e s' x).elim
  | ok fl =>
    cases fl with
    | next => exact False.elim x
    | brk => exact False.elim x
    | cont => exact False.elim x
    | ret u =>
      obtain ⟨v, H', os, bare, un, hok', r', q⟩ := x
      have kept : ∀ b o, s₁.heap.get? b = some o → s'.heap.get? b = some o := fun b o e => by
        cases q2 : H b with
        | none => exact un.keep b o e q2 (by intro z; exact absurd (show b ∈ ([] : List Addr) from z) (by simp)) (by simp)
        | some u2 =>
          rcases hO b with z | ⟨ob, u3, z⟩
          · rw [q2] at z
            cases z
          · have z2 := un.frzs b ob _ z
            obtain ⟨e1, _⟩ := hok b _ z
            obtain ⟨e2, _⟩ := hok' b _ z2
            rw [e] at e1
            cases e1
            exact e2
      have KX' : K.In s'.heap := fun b o e => kept b o (KX b o e)
      obtain ⟨as, hrd⟩ := Dw.reads (R := R) (cl := cl) hok' KX' d0 v u q r'
      exact ⟨u, as, rfl, hrd, OldK.of_keep kept, os, bare⟩
/-! ### the row -/
theorem layable_weight {ds : List WData} (h : WData.layableAll ds = true) : ∀ d ∈ ds, d.weight ≤ 1048576 := fun d hd =>
  (PySem.W.layableW_iff.mp (List.all_eq_true.mp h d hd)).2.2
theorem encAll_len : ∀ (cs : List Codec) (a : Codec.denoteAll cs), (Codec.encAll cs a).length = cs.length
  | [], _ => rfl
  | c :: cs, a => by
    show (Codec.encAll cs a.2).length + 1 = cs.length + 1
    rw [encAll_len cs a.2]
/-- the goal that k_headS leaves (case hc), from the promise of the row's def: whatever the arguments that the codecs let and the row asks for, the def gives what stands for enc (f ..) -/
theorem walk_spec {r : OpenSpec} {k : Nat} {q : Program} {loose : List Str} {XP : (Str → Option Value) → Heap → Prop} {YP : World → Heap → Prop} {d : DefRec} {K : Params → PySem.W.Frag} {CX : World → CXT} {ps : List Str} {sp : World → Sp}
    (hwell : r.wellSaid = true) (hdf : d.params.defaults = []) (hlen : r.args.length = ps.length) (hr : Room k callerA)
    (hY : ∀ (w : World) (h : Heap), YP w h → (K w.params).In h)
    (F : ∀ (w : World) (mg : Str → Option Value) (fa : Addr) (h : Heap), YP w h → (K w.params).In h → h.Ns mainGlobals mg → mg d.name = some (.ref fa) →
      ∃ fd : FuncData, (∀ (s : Shared) (us : List Value), us.length = ps.length → BindsTo s fd ⟨us, []⟩ (ps.zip us)) ∧
        ∀ base : Heap, (K w.params).In base → base.Ns mainGlobals mg → FnOk r.prog w (K w.params) mg base (CX w) k fa fd ps (sp w))
    (hsp : ∀ (w : World) (H : Hp) (xs : List V) (a : Codec.denoteAll r.args), OnlyF H → Codec.withinAll r.args a = true → Codec.app r.args r.asked a = true → DwAll (K w.params) H xs (Codec.encAll r.args a) →
      sp w xs H (fun v H' => Dw (K w.params) H' v (r.ret.enc (Codec.app r.args r.f a))) fun _ _ _ => False)
    (hCX : ∀ (w : World) (H : Hp) (s : Shared) (e : Value) (s' : Shared), CX w [] H s (fun _ _ _ => False) e s' → False) :
    PySem.W.WalkOS q loose XP YP r d [] (fun f vs => PySem.call f vs) := by
  intro w s_0 s₁ mg mb G Y fa o pm cd doc dV kV ho hd hcd hD hmg hg args vals as hpre hlay hrd hwl hlo
  obtain ⟨a, e1, e2⟩ := PySem.W.os_pre_some hpre
  obtain ⟨e3, hwi⟩ := Codec.encAll_of_decAll r.args args a e1
  subst e3
  have KX := hY w _ Y
  obtain ⟨fd, hb, hF⟩ := F w mg fa _ Y KX G.T.g hmg
  refine PySem.W.enter_call (codeAny_mono (spec_call (R := []) (cl := classAt s_0.heap) (d0 := r.ret.enc (Codec.app r.args r.f a)) KX G.T.g G.T.b G.T.builtins G.T.nolimit hg hwl (pl_encAll _ _) (layable_weight hlay) hr hF hb (by rw [encAll_len]; exact hlen)
    (fun H xs hO hS => hsp w H xs a hO hwi e2 hS) fun H e s' => hCX w H s₁ e s') fun r' s' hq => ?_)
  obtain ⟨u, as', rfl, h1, h2, h3, h4⟩ := hq
  exact ⟨.inl ⟨u, _, as', rfl, fun _ => rfl, h1, (OpenSpec.post_iff hwell hwi _ _).mpr rfl, fun z => Bool.noConfusion (show false = true from z)⟩, h2, h3, h4⟩
/-- the same where the promise hangs on the written part alone -/
theorem walk_specK {r : OpenSpec} {k : Nat} {q : Program} {loose : List Str} {XP : (Str → Option Value) → Heap → Prop} {YP : World → Heap → Prop} {d : DefRec} {K : Params → PySem.W.Frag} {CX : CXT} {ps : List Str} {sp : PySem.W.Frag → Sp}
    (hwell : r.wellSaid = true) (hdf : d.params.defaults = []) (hlen : r.args.length = ps.length) (hr : Room k callerA)
    (hY : ∀ (w : World) (h : Heap), YP w h → (K w.params).In h)
    (F : ∀ (w : World) (mg : Str → Option Value) (fa : Addr) (h : Heap), YP w h → (K w.params).In h → h.Ns mainGlobals mg → mg d.name = some (.ref fa) →
      ∃ fd : FuncData, (∀ (s : Shared) (us : List Value), us.length = ps.length → BindsTo s fd ⟨us, []⟩ (ps.zip us)) ∧
        ∀ base : Heap, (K w.params).In base → base.Ns mainGlobals mg → FnOk r.prog w (K w.params) mg base CX k fa fd ps (sp (K w.params)))
    (hsp : ∀ (K : PySem.W.Frag) (H : Hp) (xs : List V) (a : Codec.denoteAll r.args), OnlyF H → Codec.withinAll r.args a = true → Codec.app r.args r.asked a = true → DwAll K H xs (Codec.encAll r.args a) →
      sp K xs H (fun v H' => Dw K H' v (r.ret.enc (Codec.app r.args r.f a))) fun _ _ _ => False)
    (hCX : ∀ (H : Hp) (s : Shared) (e : Value) (s' : Shared), CX [] H s (fun _ _ _ => False) e s' → False) :
    PySem.W.WalkOS q loose XP YP r d [] (fun f vs => PySem.call f vs) :=
  walk_spec (K := K) (CX := fun _ => CX) (sp := fun w => sp (K w.params)) hwell hdf hlen hr hY F (fun w H xs a h1 h2 h3 h4 => hsp (K w.params) H xs a h1 h2 h3 h4) fun _ H s e s' => hCX H s e s'
end L2
-- rests on (row put in by the clerk, for the bench that shows a file only what it spells): KE.SpHead KE.OsShapes
end
end
section
set_option linter.all false
namespace LT
open Sd49
theorem cop_unique {a c : Int} {b d : Nat} (hb : 0 < b) (hd : 0 < d) (h1 : Nat.gcd a.natAbs b = 1) (h2 : Nat.gcd c.natAbs d = 1) (e : a * d = c * b) : a = c ∧ b = d := by
  have e' : a.natAbs * d = c.natAbs * b := by
    have := congrArg Int.natAbs e
    simpa [Int.natAbs_mul] using this
  have k1 : b ∣ d := by
    have : b ∣ a.natAbs * d := ⟨c.natAbs, by rw [e', Nat.mul_comm]⟩
    exact (Nat.Coprime.symm h1).dvd_of_dvd_mul_left this
  have k2 : d ∣ b := by
    have : d ∣ c.natAbs * b := ⟨a.natAbs, by rw [← e', Nat.mul_comm]⟩
    exact (Nat.Coprime.symm h2).dvd_of_dvd_mul_left this
  have hbd : b = d := Nat.dvd_antisymm k1 k2
  subst hbd
  exact ⟨Int.eq_of_mul_eq_mul_right (by omega) e, rfl⟩
theorem fr_pos (n : Int) (d : Nat) : 0 < (fr n d).den := by
  unfold fr
  split
  · decide
  · rename_i h
    exact Nat.div_pos (Nat.le_of_dvd (Nat.pos_of_ne_zero h) (Nat.gcd_dvd_right _ _)) (Nat.gcd_pos_of_pos_right _ (Nat.pos_of_ne_zero h))
theorem fr_val {n : Int} {d : Nat} (h : 0 < d) : (fr n d).num * d = n * (fr n d).den := by
  unfold fr
  rw [if_neg (by omega)]
  show n / (Nat.gcd n.natAbs d : Int) * (d : Int) = n * ((d / Nat.gcd n.natAbs d : Nat) : Int)
  obtain ⟨x, hx⟩ : (Nat.gcd n.natAbs d : Int) ∣ n := Int.ofNat_dvd_left.mpr (Nat.gcd_dvd_left _ _)
  obtain ⟨y, hy⟩ : Nat.gcd n.natAbs d ∣ d := Nat.gcd_dvd_right _ _
  have hg : 0 < Nat.gcd n.natAbs d := Nat.gcd_pos_of_pos_right _ h
  generalize Nat.gcd n.natAbs d = g at hx hy hg
  subst hx hy
  rw [Int.mul_ediv_cancel_left _ (by omega), Nat.mul_div_cancel_left _ hg]
  simp [Int.mul_comm, Int.mul_left_comm, Int.mul_assoc]
theorem fr_cop {n : Int} {d : Nat} (h : 0 < d) : Nat.gcd (fr n d).num.natAbs (fr n d).den = 1 := by
  unfold fr
  rw [if_neg (by omega)]
  show Nat.gcd (n / (Nat.gcd n.natAbs d : Int)).natAbs (d / Nat.gcd n.natAbs d) = 1
  have hg : 0 < Nat.gcd n.natAbs d := Nat.gcd_pos_of_pos_right _ h
  have e : (n / (Nat.gcd n.natAbs d : Int)).natAbs = n.natAbs / Nat.gcd n.natAbs d := by
    obtain ⟨x, hx⟩ : (Nat.gcd n.natAbs d : Int) ∣ n := Int.ofNat_dvd_left.mpr (Nat.gcd_dvd_left _ _)
    rw [Int.natAbs_ediv_of_dvd ⟨x, hx⟩]
    simp
  rw [e]
  exact Nat.coprime_div_gcd_div_gcd hg
/-- a fraction is the one of its value -/
theorem fr_uniq {f : Fr} {n : Int} {d : Nat} (hd : 0 < d) (h0 : 0 < f.den) (h1 : Nat.gcd f.num.natAbs f.den = 1) (e : f.num * d = n * f.den) : f = fr n d := by
  have v := fr_val (n := n) hd
  have k : f.num * (fr n d).den = (fr n d).num * f.den := by
    have hd' : (d : Int) ≠ 0 := by omega
    refine Int.eq_of_mul_eq_mul_right hd' ?_
    calc f.num * (fr n d).den * d = (f.num * d) * (fr n d).den := by simp [Int.mul_comm, Int.mul_left_comm, Int.mul_assoc]
      _ = (n * (fr n d).den) * f.den := by rw [e]; simp [Int.mul_comm, Int.mul_left_comm, Int.mul_assoc]
      _ = (fr n d).num * f.den * d := by rw [← v]; simp [Int.mul_comm, Int.mul_left_comm, Int.mul_assoc]
  obtain ⟨a, b⟩ := cop_unique h0 (fr_pos n d) h1 (fr_cop hd) k
  cases f
  cases e2 : fr n d
  rw [e2] at a b
  simp_all
theorem fr_eq {n m : Int} {d e : Nat} (hd : 0 < d) (he : 0 < e) (h : n * e = m * d) : fr n d = fr m e := by
  refine fr_uniq he (fr_pos _ _) (fr_cop hd) ?_
  have v := fr_val (n := n) hd
  have hd' : (d : Int) ≠ 0 := by omega
  refine Int.eq_of_mul_eq_mul_right hd' ?_
  calc (fr n d).num * e * d = ((fr n d).num * d) * e := by simp [Int.mul_comm, Int.mul_left_comm, Int.mul_assoc]
    _ = (n * e) * (fr n d).den := by rw [v]; simp [Int.mul_comm, Int.mul_left_comm, Int.mul_assoc]
    _ = m * (fr n d).den * d := by rw [h]; simp [Int.mul_comm, Int.mul_left_comm, Int.mul_assoc]
theorem fr_eq_iff {n m : Int} {d e : Nat} (hd : 0 < d) (he : 0 < e) : fr n d = fr m e ↔ n * e = m * d := by
  refine ⟨fun h => ?_, fr_eq hd he⟩
  have v := fr_val (n := n) hd
  have u := fr_val (n := m) he
  rw [h] at v
  have hp : ((fr m e).den : Int) ≠ 0 := by have := fr_pos m e; omega
  refine Int.eq_of_mul_eq_mul_right hp ?_
  calc n * e * (fr m e).den = (n * (fr m e).den) * e := by simp [Int.mul_comm, Int.mul_left_comm, Int.mul_assoc]
    _ = ((fr m e).num * e) * d := by rw [← v]; simp [Int.mul_comm, Int.mul_left_comm, Int.mul_assoc]
    _ = m * d * (fr m e).den := by rw [u]; simp [Int.mul_comm, Int.mul_left_comm, Int.mul_assoc]
/-- f is n / d -/
structure Is (f : Fr) (n : Int) (d : Nat) : Prop where
  pos : 0 < d
  eq : f = fr n d
theorem Is.to {f : Fr} {n m : Int} {d e : Nat} (h : Is f n d) (he : 0 < e) (k : n * e = m * d) : Is f m e := ⟨he, by rw [h.eq]; exact fr_eq h.pos he k⟩
theorem Is.same {f g : Fr} {n : Int} {d : Nat} (h : Is f n d) (k : Is g n d) : f = g := h.eq.trans k.eq.symm
theorem Is.val {f : Fr} {n : Int} {d : Nat} (h : Is f n d) : f.num * d = n * f.den := by rw [h.eq]; exact fr_val h.pos
theorem Is.den {f : Fr} {n : Int} {d : Nat} (h : Is f n d) : 0 < f.den := by rw [h.eq]; exact fr_pos _ _
theorem is_of_val {f : Fr} {n : Int} {d : Nat} (hd : 0 < d) (h0 : 0 < f.den) (h1 : Nat.gcd f.num.natAbs f.den = 1) (e : f.num * d = n * f.den) : Is f n d := ⟨hd, fr_uniq hd h0 h1 e⟩
theorem Is.mk' (n : Int) {d : Nat} (h : 0 < d) : Is (fr n d) n d := ⟨h, rfl⟩
theorem is_nat (n : Nat) : Is (ofNat n) n 1 := is_of_val (by decide) (show 0 < 1 by decide) (Nat.gcd_one_right _) rfl
theorem is_zero : Is zero 0 1 := is_nat 0
theorem is_one : Is one 1 1 := is_nat 1
theorem Is.add {f g : Fr} {n m : Int} {d e : Nat} (h : Is f n d) (k : Is g m e) : Is (add f g) (n * e + m * d) (d * e) := by
  have hp := h.den
  have kp := k.den
  refine (Is.mk' _ (Nat.mul_pos hp kp) : Is (Sd49.add f g) _ _).to (Nat.mul_pos h.pos k.pos) ?_
  have hv := h.val
  have kv := k.val
  generalize f.num = a at *
  generalize f.den = b at *
  generalize g.num = a' at *
  generalize g.den = b' at *
  push_cast
  calc (a * b' + a' * b) * (d * e) = (a * d) * (b' * e) + (a' * e) * (b * d) := by
        simp only [Int.add_mul]
        congr 1 <;> simp only [Int.mul_comm, Int.mul_left_comm, Int.mul_assoc]
    _ = (n * e + m * d) * (b * b') := by
        rw [hv, kv]
        simp only [Int.add_mul]
        congr 1 <;> simp only [Int.mul_comm, Int.mul_left_comm, Int.mul_assoc]
theorem Is.neg_num {f : Fr} {n : Int} {d : Nat} (h : Is f n d) : Is ⟨-f.num, f.den⟩ (-n) d := by
  refine is_of_val h.pos h.den ?_ ?_
  · show Nat.gcd (-f.num).natAbs f.den = 1
    rw [Int.natAbs_neg, h.eq]
    exact fr_cop h.pos
  · show -f.num * d = -n * f.den
    rw [Int.neg_mul, Int.neg_mul, h.val]
theorem Is.sub {f g : Fr} {n m : Int} {d e : Nat} (h : Is f n d) (k : Is g m e) : Is (sub f g) (n * e - m * d) (d * e) := by
  have q := h.add k.neg_num
  have e1 : Sd49.add f ⟨-g.num, g.den⟩ = Sd49.sub f g := by
    unfold Sd49.add Sd49.sub
    show fr (f.num * g.den + -g.num * f.den) _ = fr (f.num * g.den - g.num * f.den) _
    rw [Int.neg_mul, ← Int.sub_eq_add_neg]
  rw [e1, Int.neg_mul, ← Int.sub_eq_add_neg] at q
  exact q
theorem Is.mul {f g : Fr} {n m : Int} {d e : Nat} (h : Is f n d) (k : Is g m e) : Is (mul f g) (n * m) (d * e) := by
  have hp := h.den
  have kp := k.den
  refine (Is.mk' _ (Nat.mul_pos hp kp) : Is (Sd49.mul f g) _ _).to (Nat.mul_pos h.pos k.pos) ?_
  have hv := h.val
  have kv := k.val
  generalize f.num = a at *
  generalize f.den = b at *
  generalize g.num = a' at *
  generalize g.den = b' at *
  push_cast
  calc a * a' * (d * e) = (a * d) * (a' * e) := by simp only [Int.mul_comm, Int.mul_left_comm, Int.mul_assoc]
    _ = n * m * (b * b') := by rw [hv, kv]; simp only [Int.mul_comm, Int.mul_left_comm, Int.mul_assoc]
/-- by one above 0 -/
theorem Is.div {f g : Fr} {n : Int} {m : Nat} {d e : Nat} (h : Is f n d) (k : Is g (m : Int) e) (hm : 0 < m) : Is (div f g) (n * e) (d * m) := by
  have hp := h.den
  have kp := k.den
  have hv := h.val
  have kv := k.val
  have gp : 0 < g.num := by
    have : 0 < g.num * e := by rw [kv]; exact Int.mul_pos (by omega) (by omega)
    exact Int.pos_of_mul_pos_left this (by have := k.pos; omega)
  unfold Sd49.div
  rw [if_neg (by omega)]
  refine (Is.mk' _ (Nat.mul_pos hp (by omega))).to (Nat.mul_pos h.pos hm) ?_
  have ga : (g.num.natAbs : Int) = g.num := by omega
  push_cast
  generalize hfa : f.num = a at *
  generalize f.den = b at *
  generalize g.num.natAbs = a' at *
  generalize g.den = b' at *
  rw [← ga] at kv
  calc a * b' * (d * m) = (a * d) * (m * b') := by simp only [Int.mul_comm, Int.mul_left_comm, Int.mul_assoc]
    _ = n * e * (b * a') := by rw [hv, ← kv]; simp only [Int.mul_comm, Int.mul_left_comm, Int.mul_assoc]
end LT
end
section
set_option linter.all false
namespace LT
open Sd49
theorem Is.add_same {f g : Fr} {n m : Int} {d : Nat} (h : Is f n d) (k : Is g m d) : Is (Sd49.add f g) (n + m) d :=
  (h.add k).to h.pos (by push_cast; simp only [Int.add_mul, Int.mul_assoc])
theorem Is.sub_same {f g : Fr} {n m : Int} {d : Nat} (h : Is f n d) (k : Is g m d) : Is (Sd49.sub f g) (n - m) d :=
  (h.sub k).to h.pos (by push_cast; simp only [Int.sub_mul, Int.mul_assoc])
theorem Is.power {f : Fr} {n : Int} {d : Nat} (h : Is f n d) : ∀ k : Nat, Is (Sd49.power f k) (n ^ k) (d ^ k)
  | 0 => by rw [Int.pow_zero, Nat.pow_zero]; exact is_one
  | k + 1 => by
    have q := h.mul (Is.power h k)
    rw [Int.pow_succ', Nat.pow_succ']
    exact q
/-- how many of the ways a payment is made in, seen from t -/
def wayOf (T : Table) (s : Status) (t : Nat) (p : Pay) : Nat := match p.how with
  | .living => Sd49.alive T s p.time
  | .dying => Sd49.alive T s (p.time - 1) - Sd49.alive T s p.time
  | .sure => Sd49.alive T s t
theorem is_chance {T : Table} {s : Status} {t : Nat} (h : 0 < Sd49.alive T s t) (p : Pay) : Is (chance T s t p) (wayOf T s t p : Nat) (Sd49.alive T s t) := by
  unfold chance wayOf
  cases p.how with
  | living => exact Is.mk' _ h
  | dying => exact Is.mk' _ h
  | sure => exact is_one.to h (by simp)
theorem is_discount {T : Table} (h : 0 < T.down) : Is (discount T) (T.down : Int) (T.up + T.down) := Is.mk' _ (by omega)
/-- what a payment is worth, over one bottom for all -/
def termOf (T : Table) (s : Status) (t M : Nat) (p : Pay) : Nat := p.amount * wayOf T s t p * T.down ^ (p.time - t) * (T.up + T.down) ^ (M - (p.time - t))
theorem is_worthOf {T : Table} {s : Status} {t M : Nat} (hd : 0 < T.down) (h : 0 < Sd49.alive T s t) (p : Pay) (hM : p.time - t ≤ M) :
    Is (worthOf T s t p) (termOf T s t M p : Nat) (Sd49.alive T s t * (T.up + T.down) ^ M) := by
  have q := (is_nat p.amount).mul ((is_chance h p).mul ((is_discount hd).power (p.time - t)))
  have hW : 0 < T.up + T.down := by omega
  refine q.to (Nat.mul_pos h (Nat.pow_pos hW)) ?_
  unfold termOf
  have e : (T.up + T.down) ^ M = (T.up + T.down) ^ (p.time - t) * (T.up + T.down) ^ (M - (p.time - t)) := by rw [← Nat.pow_add]; congr 1; omega
  rw [e]
  generalize (T.up + T.down) ^ (M - (p.time - t)) = r
  generalize (T.up + T.down) ^ (p.time - t) = u
  push_cast
  generalize (T.down : Int) ^ (p.time - t) = v
  simp only [Int.one_mul]
  simp only [Int.mul_comm, Int.mul_left_comm, Int.mul_assoc]
def totalOf (T : Table) (s : Status) (t M : Nat) (l : List Pay) : Nat := (l.map (termOf T s t M)).sum
theorem is_worth {T : Table} {s : Status} {t M : Nat} (hd : 0 < T.down) (h : 0 < Sd49.alive T s t) : ∀ (l : List Pay), (∀ p ∈ l, p.time - t ≤ M) →
    Is (worth T s t l) (totalOf T s t M l : Nat) (Sd49.alive T s t * (T.up + T.down) ^ M)
  | [], _ => by
    have hW : 0 < T.up + T.down := by omega
    exact is_zero.to (Nat.mul_pos h (Nat.pow_pos hW)) (by simp [totalOf])
  | p :: l, hM => by
    have q := (is_worthOf hd h p (hM p (by simp))).add_same (is_worth hd h l fun p' hp => hM p' (by simp [hp]))
    have e : ((termOf T s t M p : Nat) : Int) + (totalOf T s t M l : Nat) = (totalOf T s t M (p :: l) : Nat) := by
      simp [totalOf]
    rw [e] at q
    exact q
theorem is_mean {T : Table} {s : Status} (h : 0 < Sd49.alive T s 0) : Is (mean T s) ((((List.range 120).map fun t => Sd49.alive T s (t + 1)).sum : Nat) : Int) (Sd49.alive T s 0) := by
  unfold mean
  generalize List.range 120 = l
  induction l with
  | nil => exact is_zero.to h (by simp)
  | cons t l ih =>
    have q := (Is.mk' (Sd49.alive T s (t + 1) : Int) h).add_same ih
    simpa [Sd49.sum] using q
/-- a fraction told is short -/
theorem Is.num_le {f : Fr} {n : Int} {d : Nat} (h : Is f n d) : f.num.natAbs ≤ n.natAbs ∧ f.den ≤ d := by
  have e : f = fr n d := h.eq
  subst e
  unfold fr
  rw [if_neg (by have := h.pos; omega)]
  refine ⟨?_, Nat.div_le_self _ _⟩
  show (n / (Nat.gcd n.natAbs d : Int)).natAbs ≤ n.natAbs
  rw [Int.natAbs_ediv_of_dvd (Int.ofNat_dvd_left.mpr (Nat.gcd_dvd_left _ _))]
  exact Nat.div_le_self _ _
theorem fr_neg_iff {n : Int} {d : Nat} (h : 0 < d) : (fr n d).num < 0 ↔ n < 0 := by
  have v := fr_val (n := n) h
  have p := fr_pos n d
  constructor
  · intro q
    have : n * (fr n d).den < 0 := by rw [← v]; exact Int.mul_neg_of_neg_of_pos q (by omega)
    by_cases hn : n < 0
    · exact hn
    · have := Int.mul_nonneg (show 0 ≤ n by omega) (show (0 : Int) ≤ (fr n d).den by omega)
      omega
  · intro q
    have : (fr n d).num * d < 0 := by rw [v]; exact Int.mul_neg_of_neg_of_pos q (by omega)
    by_cases hn : (fr n d).num < 0
    · exact hn
    · have := Int.mul_nonneg (show 0 ≤ (fr n d).num by omega) (show (0 : Int) ≤ d by omega)
      omega
end LT
end
section
set_option linter.all false
namespace LT
open Sd49
/-! ### pieces, from the left -/
theorem pieces_ne (c : Nat) : ∀ l : Bytes, pieces c l ≠ []
  | [] => by simp [pieces]
  | x :: r => by
    unfold pieces
    cases pieces c r with
    | nil => simp
    | cons p ps => simp only []; split <;> simp
theorem pieces_cons_eq {c : Nat} {r : Bytes} {p : Bytes} {ps : List Bytes} (h : pieces c r = p :: ps) (x : Nat) : pieces c (x :: r) = if x = c then [] :: p :: ps else (x :: p) :: ps := by
  rw [pieces, h]
theorem pieces_snoc (c x : Nat) : ∀ (l : Bytes) (acc : List Bytes) (last : Bytes), pieces c l = acc ++ [last] →
    pieces c (l ++ [x]) = if x = c then acc ++ [last] ++ [[]] else acc ++ [last ++ [x]]
  | [], acc, last, h => by
    have h' : [([] : Bytes)] = acc ++ [last] := h
    cases acc with
    | nil =>
      simp at h'
      subst h'
      show pieces c [x] = _
      rw [pieces_cons_eq (show pieces c [] = [] :: [] from rfl)]
      split <;> rfl
    | cons a b =>
      simp at h'
  | y :: l, acc, last, h => by
    obtain ⟨p, ps, e⟩ : ∃ p ps, pieces c l = p :: ps := by
      cases q : pieces c l with
      | nil => exact absurd q (pieces_ne c l)
      | cons p ps => exact ⟨p, ps, rfl⟩
    rw [pieces_cons_eq e] at h
    obtain ⟨a2, l2, e2⟩ : ∃ a2 l2, p :: ps = a2 ++ [l2] := ⟨(p :: ps).dropLast, (p :: ps).getLast (by simp), (List.dropLast_concat_getLast (by simp)).symm⟩
    have ih := pieces_snoc c x l a2 l2 (e.trans e2)
    have e3 : pieces c (l ++ [x]) ≠ [] := pieces_ne _ _
    obtain ⟨p', ps', e4⟩ : ∃ p' ps', pieces c (l ++ [x]) = p' :: ps' := by
      cases q : pieces c (l ++ [x]) with
      | nil => exact absurd q e3
      | cons p ps => exact ⟨p, ps, rfl⟩
    rw [List.cons_append, pieces_cons_eq e4]
    rw [e4] at ih
    by_cases hy : y = c
    · rw [if_pos hy] at h ⊢
      rw [ih]
      rw [e2, ← List.cons_append] at h
      obtain ⟨h1, h2⟩ := List.append_inj' h rfl
      simp at h2
      subst h1 h2
      split <;> rfl
    · rw [if_neg hy] at h ⊢
      cases a2 with
      | nil =>
        simp at e2
        obtain ⟨rfl, rfl⟩ := e2
        have h' : ([] : List Bytes) ++ [y :: p] = acc ++ [last] := h
        obtain ⟨h1, h2⟩ := List.append_inj' h' rfl
        simp at h2
        subst h1 h2
        by_cases hx : x = c
        · rw [if_pos hx] at ih ⊢
          simp at ih
          obtain ⟨rfl, rfl⟩ := ih
          rfl
        · rw [if_neg hx] at ih ⊢
          simp at ih
          obtain ⟨rfl, rfl⟩ := ih
          rfl
      | cons a3 a4 =>
        simp at e2
        obtain ⟨rfl, rfl⟩ := e2
        have h' : ((y :: p) :: a4) ++ [l2] = acc ++ [last] := h
        obtain ⟨h1, h2⟩ := List.append_inj' h' rfl
        simp at h2
        subst h1 h2
        by_cases hx : x = c
        · rw [if_pos hx] at ih ⊢
          simp at ih
          obtain ⟨rfl, rfl⟩ := ih
          simp
        · rw [if_neg hx] at ih ⊢
          simp at ih
          obtain ⟨rfl, rfl⟩ := ih
          simp
theorem pieces_none {c : Nat} : ∀ {l : Bytes}, c ∉ l → pieces c l = [l]
  | [], _ => rfl
  | x :: r, h => by
    rw [pieces_cons_eq (pieces_none (c := c) (l := r) (fun q => h (by simp [q]))), if_neg (fun q => h (by simp [q]))]
theorem pieces_at {c : Nat} : ∀ {x y : Bytes}, c ∉ x → pieces c (x ++ c :: y) = x :: pieces c y
  | [], y, _ => by
    obtain ⟨p, ps, e⟩ : ∃ p ps, pieces c y = p :: ps := by
      cases q : pieces c y with
      | nil => exact absurd q (pieces_ne c y)
      | cons p ps => exact ⟨p, ps, rfl⟩
    show pieces c (c :: y) = _
    rw [pieces_cons_eq e, if_pos rfl, e]
  | a :: x, y, h => by
    rw [List.cons_append, pieces_cons_eq (pieces_at (c := c) (x := x) (y := y) fun q => h (by simp [q])), if_neg fun q => h (by simp [q])]
theorem first_at {c : Nat} : ∀ {y : Bytes}, c ∈ y → ∃ a b, y = a ++ c :: b ∧ c ∉ a
  | [], h => by simp at h
  | z :: r, h => by
    by_cases hz : z = c
    · exact ⟨[], r, by simp [hz], by simp⟩
    · have hr : c ∈ r := by simpa [Ne.symm hz] using h
      obtain ⟨a2, b2, e2, hn⟩ := first_at hr
      exact ⟨z :: a2, b2, by simp [e2], by simp [hn, Ne.symm hz]⟩
theorem pieces_two {c : Nat} {y : Bytes} (h : c ∈ y) : ∃ p q ps, pieces c y = p :: q :: ps := by
  obtain ⟨a, b, rfl, hn⟩ := first_at h
  rw [pieces_at hn]
  obtain ⟨p, ps, e⟩ : ∃ p ps, pieces c b = p :: ps := by
    cases q : pieces c b with
    | nil => exact absurd q (pieces_ne c b)
    | cons p ps => exact ⟨p, ps, rfl⟩
  exact ⟨a, p, ps, by rw [e]⟩
/-! ### numbers -/
theorem natOf_foldl_lb : ∀ (d : Bytes) (v : Nat), v * 10 ^ d.length ≤ d.foldl (fun v c => 10 * v + (c - 48)) v
  | [], v => by simp
  | c :: d, v => by
    have ih := natOf_foldl_lb d (10 * v + (c - 48))
    rw [List.foldl_cons]
    refine Nat.le_trans ?_ ih
    rw [List.length_cons, Nat.pow_succ', ← Nat.mul_assoc, Nat.mul_comm v 10]
    exact Nat.mul_le_mul_right _ (by omega)
theorem natOf_big {c : Nat} {d : Bytes} (h : 49 ≤ c) : 10 ^ d.length ≤ natOf (c :: d) := by
  unfold natOf
  rw [List.foldl_cons]
  refine Nat.le_trans ?_ (natOf_foldl_lb d _)
  exact Nat.le_trans (by rw [Nat.one_mul]; exact Nat.le_refl _) (Nat.mul_le_mul_right _ (show 1 ≤ 10 * 0 + (c - 48) by omega))
/-- a number in a range, as the program reads it -/
def numIn (d : Bytes) (lo hi : Nat) : Option Nat := if d = [] ∨ (1 < d.length ∧ d.head? = some 48) ∨ d.all isDigit = false ∨ natOf d < lo ∨ hi < natOf d then none else some (natOf d)
theorem numIn_spec {d : Bytes} {lo hi : Nat} (hh : hi < 10 ^ 7) : numIn d lo hi = (number d).bind fun v => if lo ≤ v ∧ v ≤ hi then some v else none := by
  unfold numIn number
  by_cases h1 : d = []
  · simp [h1]
  by_cases h2 : 1 < d.length ∧ d.head? = some 48
  · simp [h1, h2]
  by_cases h3 : d.all isDigit = false
  · simp [h1, h3]
  by_cases h4 : 7 < d.length
  · have h5 : hi < natOf d := by
      cases d with
      | nil => exact absurd rfl h1
      | cons c r =>
        have hc : 49 ≤ c := by
          have h6 : isDigit c = true := by
            have : (c :: r).all isDigit = true := by simpa using h3
            simp at this
            exact this.1
          have h7 : c ≠ 48 := fun q => h2 ⟨by simp at h4 ⊢; omega, by simp [q]⟩
          unfold isDigit at h6
          simp at h6
          omega
        have := natOf_big (d := r) hc
        have h8 : 10 ^ 7 ≤ 10 ^ r.length := Nat.pow_le_pow_right (by omega) (by simp at h4; omega)
        omega
    rw [if_pos (by simp [h5]), if_pos (by simp [h4])]
    rfl
  · rw [if_neg (c := d = [] ∨ 7 < d.length ∨ _) (by simp only [not_or]; exact ⟨h1, h4, h3, h2⟩)]
    simp only [Option.bind_some]
    by_cases h5 : lo ≤ natOf d ∧ natOf d ≤ hi
    · rw [if_pos h5, if_neg]
      simp only [not_or]
      exact ⟨h1, h2, h3, by omega, by omega⟩
    · rw [if_neg h5, if_pos]
      by_cases h6 : natOf d < lo
      · simp [h6]
      · have : hi < natOf d := by omega
        simp [this]
/-! ### the first line -/
theorem interest_none {b : Bytes} (h : 47 ∉ b) : interestRead b = none := by
  unfold interestRead
  rw [pieces_none h]
theorem interest_at {x y : Bytes} (h : 47 ∉ x) : interestRead (x ++ 47 :: y) = (numIn x 0 1000).bind fun a => (numIn y 1 1000).map fun b => (a, b) := by
  rw [numIn_spec (by decide), numIn_spec (by decide)]
  by_cases hy : 47 ∈ y
  · have e1 : number y = none := by
      unfold number
      rw [if_pos]
      refine .inr (.inr (.inl ?_))
      rw [List.all_eq_false]
      exact ⟨47, hy, by decide⟩
    obtain ⟨p, q, ps, e⟩ := pieces_two hy
    have e2 : interestRead (x ++ 47 :: y) = none := by
      unfold interestRead
      rw [pieces_at h, e]
    rw [e2, e1]
    cases number x with
    | none => rfl
    | some v =>
      simp only [Option.bind_some, Option.bind_none, Option.map_none]
      split <;> rfl
  · unfold interestRead
    rw [pieces_at h, pieces_none hy]
    show ((number x).bind fun x => (number y).bind fun y => if x ≤ PARTS ∧ 1 ≤ y ∧ y ≤ PARTS then some (x, y) else none) = _
    have hP : PARTS = 1000 := rfl
    cases number x with
    | none => rfl
    | some v =>
      cases number y with
      | none =>
        simp only [Option.bind_some, Option.bind_none, Option.map_none]
        split <;> rfl
      | some u =>
        simp only [Option.bind_some]
        by_cases h1 : v ≤ 1000
        · by_cases h2 : 1 ≤ u ∧ u ≤ 1000
          · rw [if_pos ⟨by omega, by omega, by omega⟩, if_pos ⟨by omega, by omega⟩, if_pos h2]
            rfl
          · rw [if_neg (c := v ≤ PARTS ∧ _) (by omega), if_neg h2, if_pos ⟨by omega, by omega⟩]
            rfl
        · rw [if_neg (c := v ≤ PARTS ∧ _) (by omega), if_neg (c := 0 ≤ v ∧ _) (by omega)]
          rfl
/-! ### the lives -/
theorem lives_step {i most : Nat} {l : List Nat} {b : Bytes} {r : List Bytes} (hm : most ≤ 1000000) : livesRead i most l (b :: r) = (match numIn b 1 most with
    | none => .error i
    | some v => if l.length < 120 then livesRead (i + 1) v (l ++ [v]) r else .error i) := by
  rw [numIn_spec (by omega)]
  rw [livesRead]
  have hA : AGES = 120 := rfl
  cases number b with
  | none => rfl
  | some v =>
    simp only [Option.bind_some]
    by_cases h : 1 ≤ v ∧ v ≤ most
    · rw [if_pos (c := 1 ≤ v ∧ v ≤ most) h]
      by_cases h2 : l.length < 120
      · rw [if_pos (c := 1 ≤ v ∧ v ≤ most ∧ _) ⟨h.1, h.2, by omega⟩]
        simp [h2]
      · rw [if_neg (c := 1 ≤ v ∧ v ≤ most ∧ _) (by omega)]
        simp [h2]
    · rw [if_neg (c := 1 ≤ v ∧ v ≤ most) h, if_neg (c := 1 ≤ v ∧ v ≤ most ∧ _) (by omega)]
theorem numIn_le {d : Bytes} {lo hi v : Nat} (h : numIn d lo hi = some v) : lo ≤ v ∧ v ≤ hi := by
  unfold numIn at h
  split at h
  · cases h
  · rename_i q
    simp only [not_or] at q
    obtain rfl := Option.some.inj h
    omega
end LT
end
section
set_option linter.all false
namespace LT
open Sd49
theorem str_nat (n : Nat) : (toString n).toList = Nat.toDigits 10 n := by
  show (Nat.repr n).toList = _
  unfold Nat.repr
  simp
theorem signs_int (i : Int) : (toString i).toList.map Char.toNat = (if i < 0 then [45] else []) ++ decimal i.natAbs := by
  unfold decimal
  cases i with
  | ofNat n =>
    rw [if_neg (by simp)]
    show (toString n).toList.map Char.toNat = _
    rw [str_nat]
    rfl
  | negSucc n =>
    rw [if_pos (Int.negSucc_lt_zero n)]
    show (("-" : String) ++ toString (n + 1)).toList.map Char.toNat = _
    rw [String.toList_append, List.map_append, str_nat]
    rfl
/-- the text of a fraction, as its signs -/
theorem told_signs (f : Fr) : told f = (toString f.num).toList.map Char.toNat ++ (47 :: (toString (f.den : Int)).toList.map Char.toNat) := by
  have h : ¬ ((f.den : Int) < 0) := by omega
  rw [signs_int, signs_int, if_neg h]
  unfold told
  simp
end LT
end
section
set_option linter.all false
namespace LT
open Sd49
/-- how many numbers a call has, by its own number -/
def numbersOf (p : Int) : Option Nat := if p = 1 then some 5 else if p = 2 then some 4 else if p = 3 then some 7 else if p = 4 then some 8 else if p = 5 then some 9 else if p = 6 then some 9 else if p = 7 then some 13 else none
theorem shape_pos {p : Int} {n k : Nat} (h : PySd49.shape p = some (n, k)) : (p = 0 ∧ n = 0 ∧ k = 1) ∨ (p ≠ 0 ∧ numbersOf p = some n ∧ k = 0) := by
  unfold PySd49.shape at h
  unfold numbersOf
  repeat' (split at h)
  all_goals cases h
  all_goals (rename_i q; subst q)
  · exact .inl ⟨rfl, rfl, rfl⟩
  all_goals exact .inr ⟨by decide, by decide, rfl⟩
def Rest (l : List Int) (i : Nat) (cs : List (List (List Int))) : Prop := ∃ f, PyFlat.calls PySd49.shape f (l.drop i) = some cs
theorem rest_all {l : List Int} {cs : List (List (List Int))} (h : PyFlat.calls PySd49.shape l.length l = some cs) : Rest l 0 cs := ⟨l.length, h⟩
theorem rest_end {l : List Int} {i : Nat} {cs : List (List (List Int))} (h : Rest l i cs) (hi : l.length ≤ i) : cs = [] := by
  obtain ⟨f, h⟩ := h
  rw [List.drop_eq_nil_of_le hi] at h
  cases f <;> (unfold PyFlat.calls at h; exact (Option.some.inj h).symm)
theorem rest_step {l : List Int} {i : Nat} {cs : List (List (List Int))} (h : Rest l i cs) (hi : i < l.length) : ∃ c cs', cs = c :: cs' ∧
    ((l[i]? = some 0 ∧ ∃ n : Nat, l[i + 1]? = some (n : Int) ∧ i + 2 + n ≤ l.length ∧ c = [[0], (l.drop (i + 2)).take n] ∧ Rest l (i + 2 + n) cs') ∨
     (∃ (p : Int) (k : Nat), p ≠ 0 ∧ numbersOf p = some k ∧ l[i]? = some p ∧ i + 1 + k ≤ l.length ∧ c = [p :: (l.drop (i + 1)).take k] ∧ Rest l (i + 1 + k) cs')) := by
  obtain ⟨f, h⟩ := h
  have e : l.drop i = l[i] :: l.drop (i + 1) := List.drop_eq_getElem_cons hi
  have eg : l[i]? = some l[i] := List.getElem?_eq_getElem hi
  rw [e] at h
  generalize l[i] = p at h eg
  cases f with
  | zero =>
    unfold PyFlat.calls at h
    cases h
  | succ f =>
    rw [PyFlat.calls] at h
    cases hc : PyFlat.call PySd49.shape (p :: l.drop (i + 1)) with
    | none =>
      rw [hc] at h
      cases h
    | some ct =>
      obtain ⟨c, t⟩ := ct
      rw [hc] at h
      simp only [] at h
      cases hr : PyFlat.calls PySd49.shape f t with
      | none =>
        rw [hr] at h
        cases h
      | some cs' =>
        rw [hr] at h
        simp only [] at h
        refine ⟨c, cs', (Option.some.inj h).symm, ?_⟩
        unfold PyFlat.call at hc
        cases hs : PySd49.shape p with
        | none =>
          simp only [hs] at hc
          cases hc
        | some nk =>
          obtain ⟨n, k⟩ := nk
          simp only [hs] at hc
          by_cases hn : (l.drop (i + 1)).length < n
          · rw [if_pos hn] at hc
            cases hc
          · rw [if_neg hn] at hc
            rw [List.length_drop] at hn
            rcases shape_pos hs with ⟨rfl, rfl, rfl⟩ | ⟨hp, hk, rfl⟩
            · left
              refine ⟨eg, ?_⟩
              rw [List.drop_zero] at hc
              unfold PyFlat.rows PyFlat.row at hc
              cases hd : l.drop (i + 1) with
              | nil =>
                rw [hd] at hc
                cases hc
              | cons m r =>
                rw [hd] at hc
                simp only [] at hc
                by_cases hm : 0 ≤ m ∧ m.toNat ≤ r.length
                · rw [if_pos hm] at hc
                  have hc2 := Option.some.inj hc
                  have hi1 : i + 1 < l.length := by
                    have := congrArg List.length hd
                    rw [List.length_drop, List.length_cons] at this
                    omega
                  have e1 : l.drop (i + 1) = l[i + 1] :: l.drop (i + 2) := List.drop_eq_getElem_cons hi1
                  rw [hd] at e1
                  obtain ⟨rfl, rfl⟩ := List.cons.inj e1
                  have hlen : l[i + 1].toNat ≤ l.length - (i + 2) := by
                    have := hm.2
                    rw [List.length_drop] at this
                    exact this
                  refine ⟨l[i + 1].toNat, ?_, by omega, ?_, ?_⟩
                  · rw [List.getElem?_eq_getElem hi1]
                    congr 1
                    omega
                  · have := congrArg Prod.fst hc2
                    simpa using this.symm
                  · refine ⟨f, ?_⟩
                    have := congrArg Prod.snd hc2
                    simp only [] at this
                    rw [← List.drop_drop, ← hr]
                    rw [← this]
                · rw [if_neg hm] at hc
                  cases hc
            · right
              unfold PyFlat.rows at hc
              have hc2 := Option.some.inj hc
              refine ⟨p, n, hp, hk, eg, by omega, ?_, f, ?_⟩
              · have := congrArg Prod.fst hc2
                simpa using this.symm
              · have := congrArg Prod.snd hc2
                simp only [] at this
                rw [← List.drop_drop, ← hr, ← this]
end LT
end
section
set_option linter.all false
namespace LT
open Sd49
/-- a table as it is read -/
structure WfT (T : Table) : Prop where
  ne : T.lives ≠ []
  len : T.lives.length ≤ 120
  pos : ∀ v ∈ T.lives, 1 ≤ v ∧ v ≤ 1000000
  mono : T.lives.Pairwise (fun a b => b ≤ a)
  up : T.up ≤ 1000
  down : 1 ≤ T.down ∧ T.down ≤ 1000
theorem lives_good : ∀ (ls : List Bytes) (i most : Nat) (l r : List Nat), livesRead i most l ls = .ok r → most ≤ 1000000 → l.length ≤ 120 → (∀ v ∈ l, most ≤ v ∧ 1 ≤ v ∧ v ≤ 1000000) → l.Pairwise (fun a b => b ≤ a) →
    r.length ≤ 120 ∧ (∀ v ∈ r, 1 ≤ v ∧ v ≤ 1000000) ∧ r.Pairwise (fun a b => b ≤ a)
  | [], i, most, l, r, h, hm, hl, hv, hp => by
    unfold livesRead at h
    cases h
    exact ⟨hl, fun v z => (hv v z).2, hp⟩
  | b :: ls, i, most, l, r, h, hm, hl, hv, hp => by
    rw [lives_step hm] at h
    cases e : numIn b 1 most with
    | none =>
      rw [e] at h
      cases h
    | some v =>
      rw [e] at h
      dsimp only at h
      have vb := numIn_le e
      split at h
      · rename_i h120
        refine lives_good ls (i + 1) v (l ++ [v]) r h (by omega) (by rw [List.length_append]; simp; omega) (fun u hu => ?_) ?_
        · rcases List.mem_append.mp hu with z | z
          · have := hv u z
            omega
          · simp at z
            omega
        · rw [List.pairwise_append]
          exact ⟨hp, by simp, fun a ha c hc => by simp at hc; have := hv a ha; omega⟩
      · cases h
theorem interest_good {b : Bytes} {x y : Nat} (h : interestRead b = some (x, y)) : x ≤ 1000 ∧ 1 ≤ y ∧ y ≤ 1000 := by
  by_cases h47 : 47 ∈ b
  · obtain ⟨u, v, rfl, hn⟩ := first_at h47
    rw [interest_at hn] at h
    cases e1 : numIn u 0 1000 with
    | none =>
      rw [e1] at h
      cases h
    | some a =>
      cases e2 : numIn v 1 1000 with
      | none =>
        rw [e1, e2] at h
        cases h
      | some c =>
        rw [e1, e2] at h
        have z := Option.some.inj h
        simp at z
        have := numIn_le e1
        have := numIn_le e2
        omega
  · rw [interest_none h47] at h
    cases h
theorem wf_read {t : Bytes} {T : Table} (h : Sd49.read t = .ok T) : WfT T := by
  unfold Sd49.read at h
  split at h
  · cases h
  · split at h
    · cases h
    · rename_i i hi
      split at h
      · cases h
      · rename_i l hl
        split at h
        · cases h
        · rename_i hne
          cases h
          obtain ⟨i1, i2⟩ := i
          have a := interest_good hi
          obtain ⟨b1, b2, b3⟩ := lives_good _ 2 MANY [] l hl (Nat.le_refl _) (by simp) (by simp) (by simp)
          exact ⟨hne, b1, b2, b3, a.1, a.2⟩
section
variable {T : Table}
theorem living_le (W : WfT T) {x : Nat} : living T x ≤ 1000000 := by
  unfold living
  rw [List.getD_eq_getElem?_getD]
  cases e : T.lives[x]? with
  | none => simp
  | some v => exact (W.pos v (List.mem_of_getElem? e)).2
theorem living_pos (W : WfT T) {x : Nat} : 0 < living T x ↔ x < T.lives.length := by
  unfold living
  rw [List.getD_eq_getElem?_getD]
  by_cases h : x < T.lives.length
  · rw [List.getElem?_eq_getElem h]
    have := W.pos T.lives[x] (List.getElem_mem h)
    simp only [Option.getD_some]
    exact ⟨fun _ => h, fun _ => by omega⟩
  · rw [List.getElem?_eq_none (by omega)]
    simp
    omega
theorem living_mono (W : WfT T) {x y : Nat} (h : x ≤ y) : living T y ≤ living T x := by
  by_cases hy : y < T.lives.length
  · by_cases e : x = y
    · rw [e]
      exact Nat.le_refl _
    · have hx : x < T.lives.length := by omega
      unfold living
      rw [List.getD_eq_getElem?_getD, List.getD_eq_getElem?_getD, List.getElem?_eq_getElem hy, List.getElem?_eq_getElem hx]
      exact List.pairwise_iff_getElem.mp W.mono x y hx hy (by omega)
  · have : living T y = 0 := by
      unfold living
      rw [List.getD_eq_getElem?_getD, List.getElem?_eq_none (by omega)]
      rfl
    omega
end
/-- two lives, till the last dies: as the program reckons -/
theorem last_eq {a b p q : Nat} (ha : a ≤ p) (hb : b ≤ q) : ((a * q + p * b - a * b : Nat) : Int) = (p : Int) * q - ((p : Int) - a) * ((q : Int) - b) := by
  have h1 : a * b ≤ a * q + p * b := Nat.le_trans (Nat.mul_le_mul_left _ hb) (Nat.le_add_right _ _)
  rw [Int.ofNat_sub h1]
  push_cast
  simp only [Int.sub_mul, Int.mul_sub]
  omega
theorem last_mono {a b c d p q : Nat} (ha : a ≤ p) (hb : b ≤ q) (hc : c ≤ a) (hd : d ≤ b) : c * q + p * d - c * d ≤ a * q + p * b - a * b := by
  have e1 := last_eq ha hb
  have e2 := last_eq (a := c) (b := d) (p := p) (q := q) (by omega) (by omega)
  have k : ((p : Int) - a) * ((q : Int) - b) ≤ ((p : Int) - c) * ((q : Int) - d) := Int.mul_le_mul (by omega) (by omega) (by omega) (by omega)
  omega
theorem last_le {a b p q : Nat} (ha : a ≤ p) (hb : b ≤ q) : a * q + p * b - a * b ≤ p * q := by
  have e1 := last_eq ha hb
  have k : 0 ≤ ((p : Int) - a) * ((q : Int) - b) := Int.mul_nonneg (by omega) (by omega)
  have e : ((p * q : Nat) : Int) = (p : Int) * q := by push_cast; rfl
  omega
section
variable {T : Table} {s : Status}
theorem alive_mono (W : WfT T) {t u : Nat} (h : t ≤ u) : Sd49.alive T s u ≤ Sd49.alive T s t := by
  have a := living_mono W (show s.x + t ≤ s.x + u by omega)
  have b := living_mono W (show s.y + t ≤ s.y + u by omega)
  unfold Sd49.alive
  dsimp only
  split
  · exact a
  · split
    · exact Nat.mul_le_mul a b
    · exact last_mono (living_mono W (by omega)) (living_mono W (by omega)) a b
theorem alive_le (W : WfT T) {t : Nat} : Sd49.alive T s t ≤ 1000000000000 := by
  have a := living_le W (x := s.x + t)
  have b := living_le W (x := s.y + t)
  have a0 := living_le W (x := s.x)
  have b0 := living_le W (x := s.y)
  unfold Sd49.alive
  dsimp only
  split
  · omega
  · split
    · exact Nat.mul_le_mul a b
    · exact Nat.le_trans (last_le (living_mono W (by omega)) (living_mono W (by omega))) (Nat.mul_le_mul a0 b0)
theorem alive_far (W : WfT T) {t : Nat} (h : 120 ≤ t) : Sd49.alive T s t = 0 := by
  have z : ∀ x, living T (x + t) = 0 := fun x => by
    by_cases q : 0 < living T (x + t)
    · have := (living_pos W).mp q
      have := W.len
      omega
    · omega
  unfold Sd49.alive
  dsimp only
  rw [z s.x, z s.y]
  simp
end
/-- which statuses there are -/
theorem statusOf_eq {T : Table} (W : WfT T) (k x y : Int) : statusOf T k x y = if (0 ≤ k ∧ k ≤ 2) ∧ (0 ≤ x ∧ x ≤ (T.lives.length : Int) - 1) ∧ (k ≠ 0 → 0 ≤ y ∧ y ≤ (T.lives.length : Int) - 1) then some ⟨k.toNat, x.toNat, if k = 0 then 0 else y.toNat⟩ else none := by
  have hl := W.len
  have hA : AGES = 120 := rfl
  unfold statusOf
  by_cases h1 : 0 ≤ k ∧ k ≤ 2
  · have e1 : among 0 2 k = some k.toNat := by
      unfold among
      rw [if_pos (by simpa using h1)]
    rw [e1]
    by_cases h2 : 0 ≤ x ∧ x ≤ (T.lives.length : Int) - 1
    · have e2 : among 0 (AGES - 1) x = some x.toNat := by
        unfold among
        rw [if_pos ⟨by simpa using h2.1, by rw [hA]; simp; omega⟩]
      have p2 : 0 < living T x.toNat := (living_pos W).mpr (by omega)
      simp only [Option.bind_eq_bind, Option.bind_some, e2]
      by_cases hk : k = 0
      · subst hk
        rw [if_pos (c := (0 ≤ (0 : Int) ∧ (0 : Int) ≤ 2) ∧ _) ⟨h1, h2, fun z => absurd rfl z⟩]
        have q : isStatus T ⟨0, x.toNat, 0⟩ = true := by
          unfold isStatus
          simp [p2]
        show (if isStatus T ⟨0, x.toNat, 0⟩ = true then some (⟨0, x.toNat, 0⟩ : Status) else none) = _
        rw [if_pos q]
        rfl
      · rw [if_neg (by omega)]
        by_cases h3 : 0 ≤ y ∧ y ≤ (T.lives.length : Int) - 1
        · have e3 : among 0 (AGES - 1) y = some y.toNat := by
            unfold among
            rw [if_pos ⟨by simpa using h3.1, by rw [hA]; simp; omega⟩]
          have p3 : 0 < living T y.toNat := (living_pos W).mpr (by omega)
          rw [e3, if_pos ⟨h1, h2, fun _ => h3⟩, if_neg hk]
          simp only [Option.bind_some]
          rw [if_pos]
          unfold isStatus
          simp [p2, p3]
          omega
        · rw [if_neg (c := (0 ≤ k ∧ k ≤ 2) ∧ _) (fun z => h3 (z.2.2 hk))]
          cases e3 : among 0 (AGES - 1) y with
          | none => rfl
          | some b =>
            simp only [Option.bind_some]
            rw [if_neg]
            intro z
            unfold isStatus at z
            unfold among at e3
            split at e3
            · rename_i hy
              cases e3
              simp at z
              have z3 : 0 < living T y.toNat := by
                rcases z.2.2 with q | q
                · omega
                · exact q
              have := (living_pos W).mp z3
              omega
            · cases e3
    · rw [if_neg (fun z => h2 z.2.1)]
      cases e2 : among 0 (AGES - 1) x with
      | none => rfl
      | some a =>
        have np : ¬ 0 < living T a := fun q => by
          have := (living_pos W).mp q
          unfold among at e2
          split at e2
          · cases e2
            omega
          · cases e2
        have no : ∀ b, ¬ isStatus T ⟨k.toNat, a, b⟩ = true := fun b z => by
          unfold isStatus at z
          simp at z
          exact np z.2.1
        simp only [Option.bind_eq_bind, Option.bind_some]
        split
        · rw [if_neg (no 0)]
        · cases among 0 (AGES - 1) y with
          | none => rfl
          | some b =>
            simp only [Option.bind_some]
            rw [if_neg (no b)]
  · have e1 : among 0 2 k = none := by
      unfold among
      rw [if_neg (by simpa using h1)]
    rw [e1, if_neg (fun z => h1 z.1)]
    rfl
theorem alive_pos {T : Table} (W : WfT T) {k x y : Int} {s : Status} (h : statusOf T k x y = some s) : 0 < Sd49.alive T s 0 := by
  rw [statusOf_eq W] at h
  split at h
  · rename_i c
    cases h
    have p1 : 0 < living T x.toNat := (living_pos W).mpr (by omega)
    unfold Sd49.alive
    dsimp only
    by_cases hk : k = 0
    · rw [if_pos (by omega)]
      exact p1
    · have p2 : 0 < living T y.toNat := (living_pos W).mpr (by have := c.2.2 hk; omega)
      rw [if_neg (by omega), if_neg hk]
      split
      · exact Nat.mul_pos p1 p2
      · simp only [Nat.add_zero]
        have e := last_eq (a := living T x.toNat) (b := living T y.toNat) (Nat.le_refl _) (Nat.le_refl _)
        have := Nat.mul_pos p1 p2
        have e2 : ((living T x.toNat * living T y.toNat : Nat) : Int) = (living T x.toNat : Int) * living T y.toNat := by push_cast; rfl
        rw [Int.sub_self, Int.zero_mul] at e
        omega
  · cases h
end LT
end
section
set_option linter.all false
namespace LT
open Sd49
/-! ### what a list of payments pays at a time -/
def amt (h : How) (l : List Pay) (t : Nat) : Nat := ((l.filter fun p => p.how == h && p.time == t).map fun p => p.amount).sum
def ind (h : How) (p : Pay) (t : Nat) : Nat := if p.how = h ∧ p.time = t then p.amount else 0
theorem amt_nil (h : How) (t : Nat) : amt h [] t = 0 := rfl
theorem amt_cons (h : How) (p : Pay) (l : List Pay) (t : Nat) : amt h (p :: l) t = ind h p t + amt h l t := by
  unfold amt ind
  rw [List.filter_cons]
  by_cases c : p.how = h ∧ p.time = t
  · rw [if_pos (by simp [c]), if_pos c]
    simp
  · rw [if_neg (by simpa using c), if_neg c]
    simp
theorem amt_append (h : How) (l r : List Pay) (t : Nat) : amt h (l ++ r) t = amt h l t + amt h r t := by
  induction l with
  | nil => simp [amt_nil]
  | cons p l ih => rw [List.cons_append, amt_cons, amt_cons, ih]; omega
theorem years_succ (m n : Nat) : years m (n + 1) = years m n ++ [m + n] := by
  unfold years
  rw [List.range_succ, List.map_append]
  rfl
theorem amt_years (h h' : How) (c : Nat) (g : Nat → Nat) (m t : Nat) : ∀ n : Nat, amt h ((years m n).map fun u => pay (u + c) h' (g u)) t = if h' = h ∧ m + c ≤ t ∧ t < m + n + c then g (t - c) else 0
  | 0 => by
    rw [if_neg (by omega)]
    rfl
  | n + 1 => by
    rw [years_succ, List.map_append, amt_append, amt_years h h' c g m t n]
    have e : amt h ([m + n].map fun u => pay (u + c) h' (g u)) t = ind h (pay (m + n + c) h' (g (m + n))) t := by
      rw [List.map_cons, List.map_nil, amt_cons, amt_nil, Nat.add_zero]
    rw [e]
    unfold ind pay
    dsimp only
    by_cases q : h' = h
    · simp only [q, true_and]
      by_cases q1 : m + n + c = t
      · rw [if_pos q1, if_neg (by omega), if_pos (by omega)]
        have : t - c = m + n := by omega
        rw [this, Nat.zero_add]
      · rw [if_neg q1, Nat.add_zero]
        by_cases q2 : m + c ≤ t ∧ t < m + n + c
        · rw [if_pos q2, if_pos (by omega)]
        · rw [if_neg q2, if_neg (by omega)]
    · simp only [q, false_and, if_false]
def ifT (k m n t : Nat) : Nat := if k = 0 then (if m ≤ t ∧ t < m + n then 1 else 0) else if k = 1 then (if m < t ∧ t ≤ m + n then 1 else 0) else if k = 2 ∨ k = 4 then (if t = m + n then 1 else 0) else 0
def anyC (k m n t : Nat) : Nat := if k = 6 ∧ m ≤ t ∧ t < m + n then 1 else 0
def endP (k m n t : Nat) : Nat := if m < t ∧ t ≤ m + n then (if k = 5 then t - m else if k = 3 ∨ k = 4 then 1 else 0) else 0
theorem amt_one (h h' : How) (u a t : Nat) : amt h [pay u h' a] t = if h' = h ∧ u = t then a else 0 := by
  rw [amt_cons, amt_nil, Nat.add_zero]
  rfl
theorem years_at (h h' : How) (m n t : Nat) : amt h ((years m n).map fun u => pay u h' 1) t = if h' = h ∧ m ≤ t ∧ t < m + n then 1 else 0 := amt_years h h' 0 (fun _ => 1) m t n
theorem years_to (h h' : How) (m n t : Nat) : amt h ((years m n).map fun u => pay (u + 1) h' 1) t = if h' = h ∧ m + 1 ≤ t ∧ t < m + n + 1 then 1 else 0 := amt_years h h' 1 (fun _ => 1) m t n
theorem years_up (h h' : How) (m n t : Nat) : amt h ((years m n).map fun u => pay (u + 1) h' (u - m + 1)) t = if h' = h ∧ m + 1 ≤ t ∧ t < m + n + 1 then t - 1 - m + 1 else 0 := amt_years h h' 1 (fun u => u - m + 1) m t n
theorem seven {k : Nat} (h : k ≤ 6) : k = 0 ∨ k = 1 ∨ k = 2 ∨ k = 3 ∨ k = 4 ∨ k = 5 ∨ k = 6 := by omega
theorem amt_living {k : Nat} (hk : k ≤ 6) (m n t : Nat) : amt .living (pays k m n) t = ifT k m n t := by
  unfold pays ifT
  rcases seven hk with rfl | rfl | rfl | rfl | rfl | rfl | rfl
  · simp [years_at]
  · simp only [reduceIte, Nat.reduceEqDiff, years_to]
    simp
    congr 1
    apply propext
    omega
  · simp [amt_one]
    congr 1
    apply propext
    omega
  · simp [years_to]
  · simp [amt_append, years_to, amt_one]
    congr 1
    apply propext
    omega
  · simp [years_up]
  · simp [years_at]
theorem amt_sure {k : Nat} (hk : k ≤ 6) (m n t : Nat) : amt .sure (pays k m n) t = anyC k m n t := by
  unfold pays anyC
  rcases seven hk with rfl | rfl | rfl | rfl | rfl | rfl | rfl
  · simp [years_at]
  · simp [years_to]
  · simp [amt_one]
  · simp [years_to]
  · simp [amt_append, years_to, amt_one]
  · simp [years_up]
  · simp [years_at]
theorem amt_dying {k : Nat} (hk : k ≤ 6) (m n t : Nat) : amt .dying (pays k m n) t = endP k m n t := by
  unfold pays endP
  rcases seven hk with rfl | rfl | rfl | rfl | rfl | rfl | rfl
  · simp [years_at]
  · simp [years_to]
  · simp [amt_one]
  · simp [years_to]
    congr 1
    apply propext
    omega
  · simp [amt_append, years_to, amt_one]
    congr 1
    apply propext
    omega
  · simp [years_up]
    by_cases q : m < t ∧ t ≤ m + n
    · rw [if_pos (by omega), if_pos q]
      omega
    · rw [if_neg (by omega), if_neg q]
  · simp [years_at]
theorem pays_time {k m n : Nat} {p : Pay} (h : p ∈ pays k m n) : p.time ≤ m + n ∧ (p.how = .sure → 6 ≤ k) := by
  have y : ∀ u ∈ years m n, u < m + n := fun u hu => by
    unfold years at hu
    simp at hu
    omega
  unfold pays at h
  repeat' (split at h)
  all_goals first
    | (obtain ⟨u, hu, rfl⟩ := List.mem_map.mp h
       have := y u hu
       refine ⟨by unfold pay; dsimp only; omega, fun z => ?_⟩
       first
         | omega
         | (simp [pay] at z))
    | (rw [List.mem_singleton] at h
       subst h
       exact ⟨Nat.le_refl _, fun z => by unfold pay at z; cases z⟩)
    | (rcases List.mem_append.mp h with h | h
       · obtain ⟨u, hu, rfl⟩ := List.mem_map.mp h
         have := y u hu
         exact ⟨by unfold pay; dsimp only; omega, fun z => by unfold pay at z; cases z⟩
       · rw [List.mem_singleton] at h
         subst h
         exact ⟨Nat.le_refl _, fun z => by unfold pay at z; cases z⟩)
/-! ### the two sums, backwards -/
/-- in any case: at L + 1 - j -/
def cer (W d L : Nat) (b : Nat → Nat) : Nat → Nat
  | 0 => 0
  | j + 1 => b (L - j) * W ^ j + cer W d L b j * d
/-- as it is there or ends: at L + 1 - j -/
def unc (W d L : Nat) (y a c : Nat → Nat) : Nat → Nat
  | 0 => 0
  | j + 1 => a (L - j) * y (L - j) * W ^ j + (unc W d L y a c j + c (L - j + 1) * (y (L - j) - y (L - j + 1)) * W ^ (j - 1)) * d
theorem cer_add (W d L : Nat) (b b' : Nat → Nat) : ∀ j, cer W d L (fun t => b t + b' t) j = cer W d L b j + cer W d L b' j
  | 0 => rfl
  | j + 1 => by
    simp only [cer, cer_add W d L b b' j, Nat.add_mul]
    omega
theorem unc_add (W d L : Nat) (y a c a' c' : Nat → Nat) : ∀ j, unc W d L y (fun t => a t + a' t) (fun t => c t + c' t) j = unc W d L y a c j + unc W d L y a' c' j
  | 0 => rfl
  | j + 1 => by
    simp only [unc, unc_add W d L y a c a' c' j, Nat.add_mul]
    omega
theorem cer_zero (W d L : Nat) : ∀ j, cer W d L (fun _ => 0) j = 0
  | 0 => rfl
  | j + 1 => by simp [cer, cer_zero W d L j]
theorem unc_zero (W d L : Nat) (y : Nat → Nat) : ∀ j, unc W d L y (fun _ => 0) (fun _ => 0) j = 0
  | 0 => rfl
  | j + 1 => by simp [unc, unc_zero W d L y j]
theorem cer_one (W d L A u : Nat) : ∀ j, j ≤ L + 1 → cer W d L (fun t => if u = t then A else 0) j = if L + 1 ≤ u + j ∧ u ≤ L then A * d ^ (u + j - (L + 1)) * W ^ (L - u) else 0
  | 0, _ => by
    rw [if_neg (by omega)]
    rfl
  | j + 1, h => by
    rw [cer, cer_one W d L A u j (by omega)]
    by_cases q : u = L - j
    · rw [if_pos q, if_neg (by omega), if_pos (by omega), Nat.zero_mul, Nat.add_zero]
      have e1 : u + (j + 1) - (L + 1) = 0 := by omega
      have e2 : L - u = j := by omega
      rw [e1, e2, Nat.pow_zero, Nat.mul_one]
    · rw [if_neg q, Nat.zero_mul, Nat.zero_add]
      by_cases q2 : L + 1 ≤ u + j ∧ u ≤ L
      · rw [if_pos q2, if_pos (by omega)]
        have e1 : u + (j + 1) - (L + 1) = u + j - (L + 1) + 1 := by omega
        rw [e1, Nat.pow_succ]
        simp only [Nat.mul_comm, Nat.mul_left_comm, Nat.mul_assoc]
      · rw [if_neg q2, if_neg (by omega), Nat.zero_mul]
theorem unc_living (W d L A u : Nat) (y : Nat → Nat) : ∀ j, j ≤ L + 1 → unc W d L y (fun t => if u = t then A else 0) (fun _ => 0) j = if L + 1 ≤ u + j ∧ u ≤ L then A * y u * d ^ (u + j - (L + 1)) * W ^ (L - u) else 0
  | 0, _ => by
    rw [if_neg (by omega)]
    rfl
  | j + 1, h => by
    rw [unc, unc_living W d L A u y j (by omega), Nat.zero_mul, Nat.zero_mul, Nat.add_zero]
    by_cases q : u = L - j
    · rw [if_pos q, if_neg (by omega), if_pos (by omega), Nat.zero_mul, Nat.add_zero]
      have e1 : u + (j + 1) - (L + 1) = 0 := by omega
      have e2 : L - u = j := by omega
      rw [e1, e2, Nat.pow_zero, Nat.mul_one, ← q]
    · rw [if_neg q, Nat.zero_mul, Nat.zero_mul, Nat.zero_add]
      by_cases q2 : L + 1 ≤ u + j ∧ u ≤ L
      · rw [if_pos q2, if_pos (by omega)]
        have e1 : u + (j + 1) - (L + 1) = u + j - (L + 1) + 1 := by omega
        rw [e1, Nat.pow_succ]
        simp only [Nat.mul_comm, Nat.mul_left_comm, Nat.mul_assoc]
      · rw [if_neg q2, if_neg (by omega), Nat.zero_mul]
theorem unc_dying (W d L A u : Nat) (y : Nat → Nat) (hz : L < u → y (u - 1) - y u = 0) : ∀ j, j ≤ L + 1 → unc W d L y (fun _ => 0) (fun t => if u = t then A else 0) j = if L + 1 < u + j ∧ u ≤ L then A * (y (u - 1) - y u) * d ^ (u + j - (L + 1)) * W ^ (L - u) else 0
  | 0, _ => by
    rw [if_neg (by omega)]
    rfl
  | j + 1, h => by
    rw [unc, unc_dying W d L A u y hz j (by omega), Nat.zero_mul, Nat.zero_mul, Nat.zero_add]
    by_cases q : u = L - j + 1
    · have eu : u - 1 = L - j := by omega
      rw [if_pos q, if_neg (by omega), Nat.zero_add]
      by_cases q1 : u ≤ L
      · rw [if_pos (by omega)]
        have e1 : u + (j + 1) - (L + 1) = 1 := by omega
        have e2 : L - u = j - 1 := by omega
        rw [e1, e2, Nat.pow_one, eu, ← q]
        simp only [Nat.mul_comm, Nat.mul_left_comm, Nat.mul_assoc]
      · rw [if_neg (by omega)]
        have := hz (by omega)
        rw [eu, q] at this
        rw [this]
        simp
    · rw [if_neg q, Nat.zero_mul, Nat.zero_mul, Nat.add_zero]
      by_cases q2 : L + 1 < u + j ∧ u ≤ L
      · rw [if_pos q2, if_pos (by omega)]
        have e1 : u + (j + 1) - (L + 1) = u + j - (L + 1) + 1 := by omega
        rw [e1, Nat.pow_succ]
        simp only [Nat.mul_comm, Nat.mul_left_comm, Nat.mul_assoc]
      · rw [if_neg q2, if_neg (by omega), Nat.zero_mul]
/-! ### what payments are worth, over the common bottom -/
theorem is_worth2 {T : Table} {s : Status} {t M : Nat} (hd : 0 < T.down) (h : 0 < Sd49.alive T s t) : ∀ (l : List Pay), (∀ p ∈ l, p.time - t ≤ M ∨ wayOf T s t p = 0) →
    Is (worth T s t l) (totalOf T s t M l : Nat) (Sd49.alive T s t * (T.up + T.down) ^ M)
  | [], _ => is_worth hd h [] (fun _ z => by cases z)
  | p :: l, hM => by
    have hW : 0 < T.up + T.down := by omega
    have one : Is (worthOf T s t p) (termOf T s t M p : Nat) (Sd49.alive T s t * (T.up + T.down) ^ M) := by
      rcases hM p (by simp) with z | z
      · exact is_worthOf hd h p z
      · have q := (is_worthOf hd h p (Nat.le_refl (p.time - t)))
        have e : termOf T s t (p.time - t) p = 0 := by unfold termOf; rw [z]; simp
        have e2 : termOf T s t M p = 0 := by unfold termOf; rw [z]; simp
        rw [e] at q
        rw [e2]
        exact q.to (Nat.mul_pos h (Nat.pow_pos hW)) (by simp)
    have q := one.add_same (is_worth2 hd h l fun p' hp => hM p' (by simp [hp]))
    have e : ((termOf T s t M p : Nat) : Int) + (totalOf T s t M l : Nat) = (totalOf T s t M (p :: l) : Nat) := by
      simp [totalOf]
    rw [e] at q
    exact q
/-- behind L nothing is paid -/
def Upto (T : Table) (s : Status) (L : Nat) (l : List Pay) : Prop := ∀ p ∈ l, p.time ≤ L ∨ (p.how ≠ .sure ∧ Sd49.alive T s L = 0)
def keeps (h : How) (t u : Nat) : Bool := match h with
  | .dying => decide (t < u)
  | _ => decide (t ≤ u)
theorem left_cons (t : Nat) (p : Pay) (l : List Pay) : left t (p :: l) = if keeps p.how t p.time = true then p :: left t l else left t l := by
  unfold left
  rw [List.filter_cons]
  rfl
/-- the parts of what is worth after t years -/
def partsOf (T : Table) (s : Status) (L : Nat) (l : List Pay) (t : Nat) : Nat :=
  unc (T.up + T.down) T.down L (Sd49.alive T s) (amt .living l) (amt .dying l) (L + 1 - t) + cer (T.up + T.down) T.down L (amt .sure l) (L + 1 - t) * Sd49.alive T s t
theorem total_eq {T : Table} (Wt : WfT T) {s : Status} {L t : Nat} (ht : t ≤ L) : ∀ {l : List Pay}, Upto T s L l → totalOf T s t (L - t) (left t l) = partsOf T s L l t
  | [], _ => by
    unfold partsOf
    have e1 : (amt How.living []) = fun _ => 0 := rfl
    have e2 : (amt How.dying []) = fun _ => 0 := rfl
    have e3 : (amt How.sure []) = fun _ => 0 := rfl
    rw [e1, e2, e3, unc_zero, cer_zero]
    simp [left, totalOf]
  | p :: l, hU => by
    have far : ∀ u, L ≤ u → Sd49.alive T s L = 0 → Sd49.alive T s u = 0 := fun u hu z => Nat.eq_zero_of_le_zero (z ▸ alive_mono Wt (s := s) hu)
    have hp := hU p (by simp)
    obtain ⟨u, h, A⟩ := p
    dsimp only at hp
    have e1 : (amt How.living (⟨u, h, A⟩ :: l)) = fun t => ind .living ⟨u, h, A⟩ t + amt .living l t := funext fun t => amt_cons _ _ _ _
    have e2 : (amt How.dying (⟨u, h, A⟩ :: l)) = fun t => ind .dying ⟨u, h, A⟩ t + amt .dying l t := funext fun t => amt_cons _ _ _ _
    have e3 : (amt How.sure (⟨u, h, A⟩ :: l)) = fun t => ind .sure ⟨u, h, A⟩ t + amt .sure l t := funext fun t => amt_cons _ _ _ _
    unfold partsOf
    rw [e1, e2, e3, unc_add, cer_add, left_cons, Nat.add_mul]
    have hj : L + 1 - t ≤ L + 1 := by omega
    have key : unc (T.up + T.down) T.down L (Sd49.alive T s) (ind .living ⟨u, h, A⟩) (ind .dying ⟨u, h, A⟩) (L + 1 - t) + cer (T.up + T.down) T.down L (ind .sure ⟨u, h, A⟩) (L + 1 - t) * Sd49.alive T s t =
        if keeps h t u = true then termOf T s t (L - t) ⟨u, h, A⟩ else 0 := by
      cases h with
      | living =>
        have i1 : (ind .living ⟨u, .living, A⟩) = fun t => if u = t then A else 0 := funext fun t => by simp [ind]
        have i2 : (ind .dying ⟨u, .living, A⟩) = fun _ => 0 := funext fun t => by simp [ind]
        have i3 : (ind .sure ⟨u, .living, A⟩) = fun _ => 0 := funext fun t => by simp [ind]
        rw [i1, i2, i3, cer_zero, Nat.zero_mul, Nat.add_zero, unc_living _ _ _ _ _ _ _ hj]
        simp only [keeps, decide_eq_true_eq]
        unfold termOf wayOf
        dsimp only
        by_cases c : t ≤ u
        · rw [if_pos c]
          by_cases c2 : u ≤ L
          · rw [if_pos (by omega)]
            have a1 : u + (L + 1 - t) - (L + 1) = u - t := by omega
            have a2 : L - t - (u - t) = L - u := by omega
            rw [a1, a2]
          · rw [if_neg (by omega)]
            have z : Sd49.alive T s u = 0 := far u (by omega) (by rcases hp with q | q; omega; exact q.2)
            rw [z]
            simp
        · rw [if_neg c, if_neg (by omega)]
      | dying =>
        have i1 : (ind .living ⟨u, .dying, A⟩) = fun _ => 0 := funext fun t => by simp [ind]
        have i2 : (ind .dying ⟨u, .dying, A⟩) = fun t => if u = t then A else 0 := funext fun t => by simp [ind]
        have i3 : (ind .sure ⟨u, .dying, A⟩) = fun _ => 0 := funext fun t => by simp [ind]
        have hz : L < u → Sd49.alive T s (u - 1) - Sd49.alive T s u = 0 := fun c => by
          have := far (u - 1) (by omega) (by rcases hp with q | q; omega; exact q.2)
          omega
        simp only [i1, i2, i3]
        rw [cer_zero, Nat.zero_mul, Nat.add_zero, unc_dying _ _ _ _ _ _ hz _ hj]
        simp only [keeps, decide_eq_true_eq]
        unfold termOf wayOf
        dsimp only
        by_cases c : t < u
        · rw [if_pos c]
          by_cases c2 : u ≤ L
          · rw [if_pos (by omega)]
            have a1 : u + (L + 1 - t) - (L + 1) = u - t := by omega
            have a2 : L - t - (u - t) = L - u := by omega
            rw [a1, a2]
          · rw [if_neg (by omega), hz (by omega)]
            simp
        · rw [if_neg c, if_neg (by omega)]
      | sure =>
        have i1 : (ind .living ⟨u, .sure, A⟩) = fun _ => 0 := funext fun t => by simp [ind]
        have i2 : (ind .dying ⟨u, .sure, A⟩) = fun _ => 0 := funext fun t => by simp [ind]
        have i3 : (ind .sure ⟨u, .sure, A⟩) = fun t => if u = t then A else 0 := funext fun t => by simp [ind]
        have c2 : u ≤ L := by
          rcases hp with q | q
          · exact q
          · exact absurd rfl q.1
        rw [i1, i2, i3, unc_zero, Nat.zero_add, cer_one _ _ _ _ _ _ hj]
        simp only [keeps, decide_eq_true_eq]
        unfold termOf wayOf
        dsimp only
        by_cases c : t ≤ u
        · rw [if_pos c, if_pos (by omega)]
          have a1 : u + (L + 1 - t) - (L + 1) = u - t := by omega
          have a2 : L - t - (u - t) = L - u := by omega
          rw [a1, a2]
          simp only [Nat.mul_comm, Nat.mul_left_comm, Nat.mul_assoc]
        · rw [if_neg c, if_neg (by omega), Nat.zero_mul]
    have ih := total_eq Wt ht (l := l) fun q hq => hU q (by simp [hq])
    unfold partsOf at ih
    dsimp only
    generalize unc (T.up + T.down) T.down L (Sd49.alive T s) (ind .living ⟨u, h, A⟩) (ind .dying ⟨u, h, A⟩) (L + 1 - t) = X1 at key ⊢
    generalize cer (T.up + T.down) T.down L (ind .sure ⟨u, h, A⟩) (L + 1 - t) * Sd49.alive T s t = X2 at key ⊢
    by_cases c : keeps h t u = true
    · rw [if_pos c] at key ⊢
      have e : totalOf T s t (L - t) (⟨u, h, A⟩ :: left t l) = termOf T s t (L - t) ⟨u, h, A⟩ + totalOf T s t (L - t) (left t l) := by
        simp [totalOf]
      rw [e]
      omega
    · rw [if_neg c] at key ⊢
      omega
/-- what is to come after t years is worth its parts -/
theorem is_parts {T : Table} (Wt : WfT T) {s : Status} {L t : Nat} {l : List Pay} (hU : Upto T s L l) (h : 0 < Sd49.alive T s t) :
    Is (worth T s t (left t l)) (partsOf T s L l t : Nat) ((T.up + T.down) ^ (L - t) * Sd49.alive T s t) := by
  have hd : 0 < T.down := Wt.down.1
  have hM : ∀ p ∈ left t l, t ≤ p.time ∧ (p.time - t ≤ L - t ∨ wayOf T s t p = 0) := fun p hp => by
    unfold left at hp
    rw [List.mem_filter] at hp
    have ht : t ≤ p.time := by
      have z := hp.2
      cases e : p.how <;> rw [e] at z <;> simp at z <;> omega
    refine ⟨ht, ?_⟩
    rcases hU p hp.1 with q | q
    · exact .inl (by omega)
    · by_cases c : p.time ≤ L
      · exact .inl (by omega)
      · refine .inr ?_
        have f1 := alive_mono Wt (s := s) (t := L) (u := p.time) (by omega)
        have f2 := alive_mono Wt (s := s) (t := L) (u := p.time - 1) (by omega)
        unfold wayOf
        cases e : p.how with
        | living =>
          dsimp only
          omega
        | dying =>
          dsimp only
          omega
        | sure => exact absurd e q.1
  have q := is_worth2 hd h (left t l) fun p hp => (hM p hp).2
  rw [Nat.mul_comm (Sd49.alive T s t)] at q
  by_cases ht : t ≤ L
  · rw [total_eq Wt ht hU] at q
    exact q
  · have e0 : left t l = [] := by
      rw [List.eq_nil_iff_forall_not_mem]
      intro p hp
      have h1 := (hM p hp).1
      unfold left at hp
      rw [List.mem_filter] at hp
      rcases hU p hp.1 with z | z
      · omega
      · have := alive_mono Wt (s := s) (t := L) (u := t) (by omega)
        omega
    have e1 : partsOf T s L l t = 0 := by
      unfold partsOf
      have : L + 1 - t = 0 := by omega
      rw [this]
      simp [unc, cer]
    rw [e0] at q ⊢
    rw [e1]
    exact q
end LT
end
section
set_option linter.all false
namespace LT
open Sd49
section
variable {T : Table} (Wt : WfT T) {c : Contract} {L t : Nat}
def wholeOf (T : Table) (s : Status) (L t : Nat) : Nat := (T.up + T.down) ^ (L - t) * Sd49.alive T s t
def toPay (T : Table) (c : Contract) (L t : Nat) : Nat := partsOf T c.status L (benefits c) t
def toGet (T : Table) (c : Contract) (L t : Nat) : Nat := partsOf T c.status L (premiums c.paying) t
def rParts (T : Table) (c : Contract) (L t : Nat) : Int := (toPay T c L t : Int) * toGet T c L 0 - (toPay T c L 0 : Int) * toGet T c L t
def rWhole (T : Table) (c : Contract) (L t : Nat) : Nat := wholeOf T c.status L t * toGet T c L 0
theorem whole_pos {s : Status} (Wt : WfT T) (h : 0 < Sd49.alive T s t) : 0 < wholeOf T s L t := Nat.mul_pos (Nat.pow_pos (by have := Wt.down; omega)) h
theorem get_pos (Wt : WfT T) (h0 : 0 < Sd49.alive T c.status 0) (hh : 0 < c.paying) : 0 < toGet T c L 0 := by
  have e : amt .living (premiums c.paying) 0 = 1 := by
    unfold premiums
    rw [amt_living (by decide)]
    unfold ifT
    rw [if_pos rfl, if_pos (by omega)]
  unfold toGet partsOf
  rw [show L + 1 - 0 = L + 1 from rfl]
  unfold unc
  rw [Nat.sub_self, e]
  have : 0 < (T.up + T.down) ^ L := Nat.pow_pos (by have := Wt.down; omega)
  have := Nat.mul_pos h0 this
  rw [Nat.one_mul]
  omega
theorem is_zero_iff {f : Fr} {n : Int} {d : Nat} (h : Is f n d) : f = zero ↔ n = 0 := by
  rw [h.eq, is_zero.eq, fr_eq_iff h.pos (by decide)]
  simp
theorem is_premium (Wt : WfT T) (h0 : 0 < Sd49.alive T c.status 0) (hh : 0 < c.paying) (u1 : Upto T c.status L (benefits c)) (u2 : Upto T c.status L (premiums c.paying)) : Is (premium T c) (toPay T c L 0 : Nat) (toGet T c L 0) := by
  have l0 : ∀ l : List Pay, (∀ p ∈ l, p.how = .dying → 0 < p.time) → left 0 l = l := fun l hl => by
    unfold left
    rw [List.filter_eq_self]
    intro p hp
    cases e : p.how with
    | dying => simp [hl p hp e]
    | living => simp
    | sure => simp
  have ld : ∀ k m n, ∀ p ∈ pays k m n, p.how = .dying → 0 < p.time := fun k m n p hp e => by
    unfold pays at hp
    repeat' (split at hp)
    all_goals first
      | (obtain ⟨u, hu, rfl⟩ := List.mem_map.mp hp
         simp [pay] at e ⊢)
      | (rw [List.mem_singleton] at hp
         subst hp
         simp [pay] at e)
      | (rcases List.mem_append.mp hp with hp | hp
         · obtain ⟨u, hu, rfl⟩ := List.mem_map.mp hp
           simp [pay] at e ⊢
         · rw [List.mem_singleton] at hp
           subst hp
           simp [pay] at e)
  have a := is_parts Wt u1 h0
  have b := is_parts Wt u2 h0
  rw [l0 (benefits c) (ld _ _ _)] at a
  rw [l0 (premiums c.paying) (ld _ _ _)] at b
  have g := get_pos (L := L) Wt h0 hh
  have q := a.div b g
  refine q.to g ?_
  show (toPay T c L 0 : Int) * ((wholeOf T c.status L 0 : Nat) : Int) * (toGet T c L 0 : Nat) = (toPay T c L 0 : Int) * ((wholeOf T c.status L 0 * toGet T c L 0 : Nat) : Int)
  push_cast
  grind
theorem is_reserve (Wt : WfT T) (h0 : 0 < Sd49.alive T c.status 0) (ht : 0 < Sd49.alive T c.status t) (hh : 0 < c.paying) (u1 : Upto T c.status L (benefits c)) (u2 : Upto T c.status L (premiums c.paying)) : Is (reserve T c t) (rParts T c L t) (rWhole T c L t) := by
  have g := get_pos (L := L) Wt h0 hh
  have q := (is_parts Wt u1 ht).sub ((is_premium Wt h0 hh u1 u2).mul (is_parts Wt u2 ht))
  refine q.to (Nat.mul_pos (whole_pos Wt ht) g) ?_
  show ((toPay T c L t : Int) * ((toGet T c L 0 * wholeOf T c.status L t : Nat) : Int) - (toPay T c L 0 : Int) * (toGet T c L t : Int) * (wholeOf T c.status L t : Nat)) * ((wholeOf T c.status L t * toGet T c L 0 : Nat) : Int) =
    ((toPay T c L t : Int) * toGet T c L 0 - (toPay T c L 0 : Int) * toGet T c L t) * ((wholeOf T c.status L t * (toGet T c L 0 * wholeOf T c.status L t) : Nat) : Int)
  push_cast
  grind
theorem worth_zero (Wt : WfT T) (ht : 0 < Sd49.alive T c.status t) (u1 : Upto T c.status L (benefits c)) : worth T c.status t (left t (benefits c)) = zero ↔ toPay T c L t = 0 := by
  rw [is_zero_iff (is_parts Wt u1 ht)]
  show ((toPay T c L t : Nat) : Int) = 0 ↔ _
  omega
theorem is_paid (Wt : WfT T) (h0 : 0 < Sd49.alive T c.status 0) (ht : 0 < Sd49.alive T c.status t) (hh : 0 < c.paying) (u1 : Upto T c.status L (benefits c)) (u2 : Upto T c.status L (premiums c.paying)) (hp : toPay T c L t ≠ 0) : Is (paidUp T c t) (rParts T c L t) (toPay T c L t * toGet T c L 0) := by
  have g := get_pos (L := L) Wt h0 hh
  have q := (is_reserve Wt h0 ht hh u1 u2).div (is_parts Wt u1 ht) (by show 0 < toPay T c L t; omega)
  refine q.to (Nat.mul_pos (by omega) g) ?_
  show rParts T c L t * ((wholeOf T c.status L t : Nat) : Int) * ((toPay T c L t * toGet T c L 0 : Nat) : Int) = rParts T c L t * ((wholeOf T c.status L t * toGet T c L 0 * toPay T c L t : Nat) : Int)
  push_cast
  grind
/-! ### a year's gain -/
theorem amt_sures (h : How) (l : List Pay) (t : Nat) : amt h (l.filter fun p => p.how == .sure) t = if h = .sure then amt .sure l t else 0 := by
  induction l with
  | nil =>
    simp [amt_nil]
  | cons p l ih =>
    rw [List.filter_cons]
    by_cases c : p.how = .sure
    · rw [if_pos (by simp [c]), amt_cons, ih]
      split
      · rename_i e
        rw [e, amt_cons]
      · rename_i e
        unfold ind
        rw [if_neg (fun z => e (z.1.symm.trans c))]
    · rw [if_neg (by simpa using c), ih]
      split
      · rw [amt_cons]
        unfold ind
        rw [if_neg (fun z => c z.1), Nat.zero_add]
      · rfl
def sureP (T : Table) (c : Contract) (L t : Nat) : Nat := cer (T.up + T.down) T.down L (amt .sure (benefits c)) (L + 1 - t) * Sd49.alive T c.status t
theorem is_sure (Wt : WfT T) (ht : 0 < Sd49.alive T c.status t) (u1 : Upto T c.status L (benefits c)) : Is (worth T c.status t ((left t (benefits c)).filter fun p => p.how == .sure)) (sureP T c L t : Nat) (wholeOf T c.status L t) := by
  have e : (left t (benefits c)).filter (fun p => p.how == .sure) = left t ((benefits c).filter fun p => p.how == .sure) := by
    unfold left
    rw [List.filter_filter, List.filter_filter]
    congr 1
    funext p
    rw [Bool.and_comm]
  have q := is_parts (t := t) Wt (l := (benefits c).filter fun p => p.how == .sure) (L := L) (s := c.status) (fun p hp => u1 p (List.mem_filter.mp hp).1) ht
  rw [e]
  have a1 : amt .living ((benefits c).filter fun p => p.how == .sure) = fun _ => 0 := funext fun u => by rw [amt_sures]; simp
  have a2 : amt .dying ((benefits c).filter fun p => p.how == .sure) = fun _ => 0 := funext fun u => by rw [amt_sures]; simp
  have a3 : amt .sure ((benefits c).filter fun p => p.how == .sure) = amt .sure (benefits c) := funext fun u => by rw [amt_sures]; simp
  unfold partsOf at q
  rw [a1, a2, a3, unc_zero, Nat.zero_add] at q
  exact q
theorem due_eq (c : Contract) (t : Nat) : due c t = amt .living (benefits c) t + amt .sure (benefits c) t := by
  unfold due
  generalize benefits c = l
  induction l with
  | nil => simp [amt_nil]
  | cons p l ih =>
    rw [amt_cons, amt_cons, List.filter_cons]
    by_cases q : p.time = t
    · cases e : p.how with
      | dying =>
        rw [if_neg (by simp)]
        unfold ind
        rw [if_neg (by rw [e]; simp), if_neg (by rw [e]; simp)]
        omega
      | living =>
        rw [if_pos (by simp [q])]
        unfold ind
        rw [if_pos ⟨e, q⟩, if_neg (by rw [e]; simp), List.map_cons, List.sum_cons]
        omega
      | sure =>
        rw [if_pos (by simp [q])]
        unfold ind
        rw [if_neg (by rw [e]; simp), if_pos ⟨e, q⟩, List.map_cons, List.sum_cons]
        omega
    · rw [if_neg (by simp [q])]
      unfold ind
      rw [if_neg (fun z => q z.2), if_neg (fun z => q z.2)]
      omega
def endParts (T : Table) (c : Contract) (L t : Nat) : Nat := amt .dying (benefits c) t * rWhole T c L t + sureP T c L t * toGet T c L 0
theorem is_atEnd (Wt : WfT T) (h0 : 0 < Sd49.alive T c.status 0) (ht : 0 < Sd49.alive T c.status t) (hh : 0 < c.paying) (u1 : Upto T c.status L (benefits c)) : Is (atEnd T c t) (endParts T c L t : Nat) (rWhole T c L t) := by
  have g := get_pos (L := L) Wt h0 hh
  have q := (is_nat (amt .dying (benefits c) t)).add (is_sure Wt ht u1)
  refine (q.to (f := atEnd T c t) (Nat.mul_pos (whole_pos Wt ht) g) ?_)
  unfold endParts rWhole
  push_cast
  grind
def keptParts (T : Table) (c : Contract) (L t : Nat) : Int := rParts T c L t - ((amt .living (benefits c) t + amt .sure (benefits c) t : Nat) : Int) * rWhole T c L t + ((ifT 0 0 c.paying t * toPay T c L 0 * wholeOf T c.status L t : Nat) : Int)
theorem is_fund (Wt : WfT T) (h0 : 0 < Sd49.alive T c.status 0) (ht : 0 < Sd49.alive T c.status t) (hh : 0 < c.paying) (u1 : Upto T c.status L (benefits c)) (u2 : Upto T c.status L (premiums c.paying)) : Is (fund T c t) (keptParts T c L t) (rWhole T c L t) := by
  have g := get_pos (L := L) Wt h0 hh
  have hw := whole_pos (L := L) Wt ht
  have p : Is (if t < c.paying then premium T c else zero) ((ifT 0 0 c.paying t * toPay T c L 0 * wholeOf T c.status L t : Nat) : Int) (rWhole T c L t) := by
    unfold ifT
    rw [if_pos rfl]
    by_cases z : t < c.paying
    · rw [if_pos z, if_pos (by omega), Nat.one_mul]
      refine (is_premium Wt h0 hh u1 u2).to (Nat.mul_pos hw g) ?_
      unfold rWhole
      push_cast
      grind
    · rw [if_neg z, if_neg (by omega)]
      exact is_zero.to (Nat.mul_pos hw g) (by simp)
  have d : Is (ofNat (due c t)) (((amt .living (benefits c) t + amt .sure (benefits c) t : Nat) : Int) * rWhole T c L t) (rWhole T c L t) := by
    rw [due_eq]
    exact (is_nat _).to (Nat.mul_pos hw g) (by simp)
  exact ((is_reserve Wt h0 ht hh u1 u2).sub_same d).add_same p
theorem is_gain (Wt : WfT T) (h0 : 0 < Sd49.alive T c.status 0) (ht : 0 < Sd49.alive T c.status t) (ht1 : 0 < Sd49.alive T c.status (t + 1)) (hh : 0 < c.paying) (u1 : Upto T c.status L (benefits c)) (u2 : Upto T c.status L (premiums c.paying))
    {N D e f : Nat} (hD : D ≤ N) (hf : 0 < f) : Is (gain T c t N D e f) (((N : Int) * keptParts T c L t * ((f : Int) + e)) * (rWhole T c L (t + 1) : Nat) - ((D : Int) * (endParts T c L (t + 1) : Nat) + ((N : Int) - D) * rParts T c L (t + 1)) * ((rWhole T c L t * f : Nat) : Int)) (rWhole T c L t * f * rWhole T c L (t + 1)) := by
  have a := ((is_nat N).mul (is_fund Wt h0 ht hh u1 u2)).mul (Is.mk' ((e + f : Nat) : Int) hf)
  have b := ((is_nat D).mul (is_atEnd Wt h0 ht1 hh u1))
  have b2 := ((is_nat (N - D)).mul (is_reserve Wt h0 ht1 hh u1 u2))
  have q := a.sub (b.add_same b2)
  have eN : ((N - D : Nat) : Int) = (N : Int) - D := by omega
  have q2 : Is (gain T c t N D e f) _ _ := q
  rw [eN] at q2
  have g := get_pos (L := L) Wt h0 hh
  have p1 : 0 < rWhole T c L t := Nat.mul_pos (whole_pos Wt ht) g
  have p2 : 0 < rWhole T c L (t + 1) := Nat.mul_pos (whole_pos Wt ht1) g
  refine q2.to (Nat.mul_pos (Nat.mul_pos p1 hf) p2) ?_
  push_cast
  grind
/-- less, by what the bottoms share -/
theorem fr_less {a b : Int} {x y : Nat} (hx : 0 < x) (hy : 0 < y) : fr (a * ((y / Nat.gcd x y : Nat) : Int) - b * ((x / Nat.gcd x y : Nat) : Int)) (x / Nat.gcd x y * y) = fr (a * y - b * x) (x * y) := by
  have hg : 0 < Nat.gcd x y := Nat.gcd_pos_of_pos_left _ hx
  obtain ⟨u, hu⟩ := Nat.gcd_dvd_left x y
  obtain ⟨v, hv⟩ := Nat.gcd_dvd_right x y
  have eu : x / Nat.gcd x y = u := by
    conv => lhs; lhs; rw [hu]
    exact Nat.mul_div_cancel_left _ hg
  have ev : y / Nat.gcd x y = v := by
    conv => lhs; lhs; rw [hv]
    exact Nat.mul_div_cancel_left _ hg
  rw [eu, ev]
  have pu : 0 < u := Nat.pos_of_ne_zero fun z => by rw [z] at hu; omega
  refine fr_eq (Nat.mul_pos pu hy) (Nat.mul_pos hx hy) ?_
  generalize Nat.gcd x y = g at hu hv hg
  subst hu hv
  push_cast
  grind
end
/-! ### a table whose interest is in its lowest terms -/
def nrm (T : Table) : Table := ⟨T.lives, (fr T.up T.down).num.toNat, (fr T.up T.down).den⟩
theorem nrm_lives (T : Table) : (nrm T).lives = T.lives := rfl
theorem nrm_rate {T : Table} (h : 0 < T.down) : ((nrm T).up : Int) = (fr T.up T.down).num := by
  show (((fr T.up T.down).num.toNat : Nat) : Int) = _
  have : ¬ (fr T.up T.down).num < 0 := fun z => by
    have := (fr_neg_iff h).mp z
    omega
  omega
theorem nrm_wf {T : Table} (W : WfT T) : WfT (nrm T) := by
  have h : 0 < T.down := W.down.1
  have q := (Is.mk' (T.up : Int) h).num_le
  have e := nrm_rate h
  have p := fr_pos (T.up : Int) T.down
  have w1 := W.up
  have w2 := W.down
  refine ⟨W.ne, W.len, W.pos, W.mono, ?_, ?_, ?_⟩
  · omega
  · exact p
  · show (fr T.up T.down).den ≤ 1000
    omega
theorem nrm_discount {T : Table} (h : 0 < T.down) : discount (nrm T) = discount T := by
  have v := fr_val (n := (T.up : Int)) h
  have p := fr_pos (T.up : Int) T.down
  have e := nrm_rate h
  unfold discount
  refine fr_eq ?_ (by omega) ?_
  · show 0 < (nrm T).up + (fr T.up T.down).den
    omega
  · rw [← e] at v
    show ((fr T.up T.down).den : Int) * ((T.up + T.down : Nat) : Int) = (T.down : Int) * (((nrm T).up + (fr T.up T.down).den : Nat) : Int)
    push_cast
    grind
theorem nrm_alive (T : Table) (s : Status) (t : Nat) : Sd49.alive (nrm T) s t = Sd49.alive T s t := rfl
theorem nrm_worth {T : Table} (h : 0 < T.down) : worth (nrm T) = worth T := by
  funext s t l
  unfold worth
  congr 1
  congr 1
  funext p
  unfold worthOf
  rw [nrm_discount h]
  rfl
theorem nrm_premium {T : Table} (h : 0 < T.down) : premium (nrm T) = premium T := by
  funext c
  unfold premium
  rw [nrm_worth h]
theorem nrm_reserve {T : Table} (h : 0 < T.down) : reserve (nrm T) = reserve T := by
  funext c t
  unfold reserve
  rw [nrm_worth h, nrm_premium h]
theorem nrm_paid {T : Table} (h : 0 < T.down) : paidUp (nrm T) = paidUp T := by
  funext c t
  unfold paidUp
  rw [nrm_worth h, nrm_reserve h]
theorem nrm_gain {T : Table} (h : 0 < T.down) : gain (nrm T) = gain T := by
  funext c t a b e f
  unfold gain fund atEnd
  rw [nrm_worth h, nrm_reserve h, nrm_premium h]
theorem nrm_mean (T : Table) : mean (nrm T) = mean T := rfl
theorem nrm_status (T : Table) : statusOf (nrm T) = statusOf T := rfl
/-- a call answers the same -/
theorem nrm_does {T : Table} (h : 0 < T.down) (c : Sd49.Call) (hc : ∀ t n, c ≠ .begin_ t n) : (does (some (nrm T)) c).2 = (does (some T) c).2 := by
  cases c with
  | begin_ t n => exact absurd rfl (hc t n)
  | alive q x y t room => rfl
  | mean q x y room => rfl
  | worth q x y k m n room =>
    simp only [does, Option.bind_some]
    rw [nrm_worth h]
    rfl
  | premium c room =>
    simp only [does, Option.bind_some]
    rw [nrm_premium h]
    rfl
  | reserve c t room =>
    simp only [does, Option.bind_some]
    rw [nrm_reserve h]
    rfl
  | paidUp c t room =>
    simp only [does, Option.bind_some, paid]
    rw [nrm_worth h, nrm_paid h]
    rfl
  | gain c t a b e f room =>
    simp only [does, Option.bind_some, gained]
    rw [nrm_gain h]
    rfl
end LT
end
section
set_option linter.all false
namespace LT
open Sd49
/-! ### how great the numbers get -/
structure Sm (k : Nat) (i : Int) : Prop where
  below : i.natAbs < 2 ^ k
theorem Sm.mono {a b : Nat} {i : Int} (h : Sm a i) (hab : a ≤ b) : Sm b i := ⟨Nat.lt_of_lt_of_le h.below (Nat.pow_le_pow_right (by decide) hab)⟩
theorem Sm.mul {a b : Nat} {i j : Int} (h : Sm a i) (k : Sm b j) : Sm (a + b) (i * j) := by
  refine ⟨?_⟩
  rw [Int.natAbs_mul, Nat.pow_add]
  exact Nat.mul_lt_mul_of_lt_of_le h.below (Nat.le_of_lt k.below) (Nat.pow_pos (by decide))
theorem Sm.add {a : Nat} {i j : Int} (h : Sm a i) (k : Sm a j) : Sm (a + 1) (i + j) := by
  refine ⟨?_⟩
  have h1 := h.below
  have h2 := k.below
  rw [Nat.pow_succ]
  omega
theorem Sm.sub {a : Nat} {i j : Int} (h : Sm a i) (k : Sm a j) : Sm (a + 1) (i - j) := by
  refine ⟨?_⟩
  have h1 := h.below
  have h2 := k.below
  rw [Nat.pow_succ]
  omega
theorem sm_nat {a n : Nat} (h : n < 2 ^ a) : Sm a (n : Int) := ⟨by
  rw [Int.natAbs_natCast]
  exact h⟩
theorem Sm.lt {a n : Nat} (h : Sm a (n : Int)) : n < 2 ^ a := by
  have := h.below
  rw [Int.natAbs_natCast] at this
  exact this
theorem Sm.le {a n m : Nat} (h : Sm a (n : Int)) (hm : m ≤ n) : Sm a (m : Int) := sm_nat (Nat.lt_of_le_of_lt hm h.lt)
theorem cer_le {W d L : Nat} {b : Nat → Nat} (hb : ∀ t, b t ≤ 1) (hd : d ≤ W) (hW : 1 ≤ W) : ∀ j, cer W d L b j ≤ j * W ^ j
  | 0 => by simp [cer]
  | j + 1 => by
    have ih := cer_le (L := L) hb hd hW j
    have h1 : b (L - j) * W ^ j ≤ W ^ (j + 1) := by
      rw [Nat.pow_succ, Nat.mul_comm]
      exact Nat.mul_le_mul_left _ (Nat.le_trans (hb _) hW)
    have h2 : cer W d L b j * d ≤ j * W ^ (j + 1) := by
      rw [Nat.pow_succ, ← Nat.mul_assoc]
      exact Nat.mul_le_mul ih hd
    rw [cer, Nat.succ_mul]
    omega
theorem unc_le {W d L B Y : Nat} {y a c : Nat → Nat} (ha : ∀ t, a t ≤ B) (hc : ∀ t, c t ≤ B) (hy : ∀ t, y t ≤ Y) (hd : d ≤ W) (hW : 1 ≤ W) : ∀ j, unc W d L y a c j ≤ j * (2 * (B * Y)) * W ^ j
  | 0 => by simp [unc]
  | j + 1 => by
    have ih := unc_le (L := L) ha hc hy hd hW j
    have h1 : a (L - j) * y (L - j) * W ^ j ≤ B * Y * W ^ (j + 1) := Nat.mul_le_mul (Nat.mul_le_mul (ha _) (hy _)) (Nat.pow_le_pow_right hW (by omega))
    have h2 : unc W d L y a c j * d ≤ j * (2 * (B * Y)) * W ^ (j + 1) := by
      rw [Nat.pow_succ, ← Nat.mul_assoc]
      exact Nat.mul_le_mul ih hd
    have h3 : c (L - j + 1) * (y (L - j) - y (L - j + 1)) * W ^ (j - 1) * d ≤ B * Y * W ^ (j + 1) := by
      have e : B * Y * W ^ (j + 1) = B * Y * W ^ j * W := by rw [Nat.pow_succ, ← Nat.mul_assoc]
      rw [e]
      refine Nat.mul_le_mul (Nat.mul_le_mul (Nat.mul_le_mul (hc _) ?_) (Nat.pow_le_pow_right hW (by omega))) hd
      exact Nat.le_trans (Nat.sub_le _ _) (hy _)
    rw [unc, Nat.add_mul]
    have e2 : (j + 1) * (2 * (B * Y)) * W ^ (j + 1) = j * (2 * (B * Y)) * W ^ (j + 1) + (B * Y * W ^ (j + 1) + B * Y * W ^ (j + 1)) := by
      rw [Nat.succ_mul, Nat.add_mul]
      congr 1
      rw [Nat.two_mul, Nat.add_mul]
    rw [e2]
    omega
theorem pow_le2 {W j : Nat} (hW : 1 ≤ W) (h2 : W ≤ 2000) (hj : j ≤ 241) : W ^ j ≤ 2000 ^ 241 := Nat.le_trans (Nat.pow_le_pow_left h2 j) (Nat.pow_le_pow_right (by decide) hj)
theorem scale_sm {W j : Nat} (hW : 1 ≤ W) (h2 : W ≤ 2000) (hj : j ≤ 241) : Sm 2680 ((W ^ j : Nat) : Int) := sm_nat (Nat.lt_of_le_of_lt (pow_le2 hW h2 hj) (by decide +kernel))
theorem ifT_le (k m n t : Nat) : ifT k m n t ≤ 1 := by
  unfold ifT
  repeat' split
  all_goals decide
theorem anyC_le (k m n t : Nat) : anyC k m n t ≤ 1 := by
  unfold anyC
  split <;> decide
theorem endP_le {k m n : Nat} (hn : n ≤ 120) (t : Nat) : endP k m n t ≤ 120 := by
  unfold endP
  repeat' split
  all_goals omega
section
variable {T : Table} {s : Status} {L k m n : Nat}
theorem cer_sm (Wt : WfT T) {b : Nat → Nat} (hb : ∀ t, b t ≤ 1) {j : Nat} (hj : j ≤ 241) : Sm 2680 ((cer (T.up + T.down) T.down L b j : Nat) : Int) := by
  have h1 := Wt.up
  have h2 := Wt.down
  refine sm_nat (Nat.lt_of_le_of_lt (cer_le (L := L) hb (by omega) (by omega) j) ?_)
  exact Nat.lt_of_le_of_lt (Nat.mul_le_mul hj (pow_le2 (by omega) (by omega) hj)) (by decide +kernel)
theorem unc_sm (Wt : WfT T) {a c : Nat → Nat} (ha : ∀ t, a t ≤ 120) (hc : ∀ t, c t ≤ 120) {j : Nat} (hj : j ≤ 241) : Sm 2710 ((unc (T.up + T.down) T.down L (Sd49.alive T s) a c j : Nat) : Int) := by
  have h1 := Wt.up
  have h2 := Wt.down
  refine sm_nat (Nat.lt_of_le_of_lt (unc_le (L := L) (Y := 1000000000000) ha hc (fun _ => alive_le Wt) (by omega) (by omega) j) ?_)
  exact Nat.lt_of_le_of_lt (Nat.mul_le_mul (Nat.mul_le_mul_right _ hj) (pow_le2 (by omega) (by omega) hj)) (by decide +kernel)
theorem alive_sm (Wt : WfT T) (t : Nat) : Sm 40 ((Sd49.alive T s t : Nat) : Int) := sm_nat (Nat.lt_of_le_of_lt (alive_le Wt) (by decide +kernel))
theorem whole_sm (Wt : WfT T) (hL : L ≤ 240) (t : Nat) : Sm 2720 ((wholeOf T s L t : Nat) : Int) := by
  have h1 := Wt.up
  have h2 := Wt.down
  unfold wholeOf
  rw [Int.natCast_mul]
  exact (scale_sm (by omega) (by omega) (by omega)).mul (alive_sm Wt t)
theorem sure_sm (Wt : WfT T) {b : Nat → Nat} (hb : ∀ t, b t ≤ 1) (hL : L ≤ 240) (t : Nat) : Sm 2720 ((cer (T.up + T.down) T.down L b (L + 1 - t) * Sd49.alive T s t : Nat) : Int) := by
  rw [Int.natCast_mul]
  exact (cer_sm Wt hb (by omega)).mul (alive_sm Wt t)
theorem parts_sm (Wt : WfT T) (hk : k ≤ 6) (hn : n ≤ 120) (hL : L ≤ 240) (t : Nat) : Sm 2721 ((partsOf T s L (pays k m n) t : Nat) : Int) := by
  have e1 : amt .living (pays k m n) = ifT k m n := funext fun t => amt_living hk m n t
  have e2 : amt .dying (pays k m n) = endP k m n := funext fun t => amt_dying hk m n t
  have e3 : amt .sure (pays k m n) = anyC k m n := funext fun t => amt_sure hk m n t
  unfold partsOf
  rw [e1, e2, e3, Int.natCast_add]
  exact ((unc_sm Wt (fun t => Nat.le_trans (ifT_le k m n t) (by decide)) (fun t => endP_le hn t) (by omega)).mono (by decide)).add (sure_sm Wt (fun t => anyC_le k m n t) hL t)
end
/-- a contract as it is asked for -/
structure WfC (T : Table) (c : Contract) (L : Nat) : Prop where
  tab : WfT T
  kind : c.kind ≤ 6
  wait : c.wait ≤ 120
  term : c.term ≤ 120
  pay : 1 ≤ c.paying ∧ c.paying ≤ 120
  there : 0 < Sd49.alive T c.status 0
  last : L ≤ 240
  u1 : Upto T c.status L (benefits c)
  u2 : Upto T c.status L (premiums c.paying)
section
variable {T : Table} {c : Contract} {L : Nat}
theorem WfC.pay_sm (W : WfC T c L) (t : Nat) : Sm 2721 ((toPay T c L t : Nat) : Int) := parts_sm W.tab W.kind W.term W.last t
theorem WfC.get_sm (W : WfC T c L) (t : Nat) : Sm 2721 ((toGet T c L t : Nat) : Int) := parts_sm W.tab (by decide) W.pay.2 W.last t
theorem WfC.whole_sm (W : WfC T c L) (t : Nat) : Sm 2720 ((wholeOf T c.status L t : Nat) : Int) := LT.whole_sm W.tab W.last t
theorem WfC.rp_sm (W : WfC T c L) (t : Nat) : Sm 5443 (rParts T c L t) := ((W.pay_sm t).mul (W.get_sm 0)).sub ((W.pay_sm 0).mul (W.get_sm t))
theorem WfC.rw_sm (W : WfC T c L) (t : Nat) : Sm 5441 ((rWhole T c L t : Nat) : Int) := by
  unfold rWhole
  rw [Int.natCast_mul]
  exact (W.whole_sm t).mul (W.get_sm 0)
theorem WfC.sure_sm (W : WfC T c L) (t : Nat) : Sm 2720 ((sureP T c L t : Nat) : Int) := by
  have e3 : amt .sure (benefits c) = anyC c.kind c.wait c.term := funext fun t => amt_sure W.kind _ _ t
  unfold sureP
  rw [e3]
  exact LT.sure_sm W.tab (fun t => anyC_le _ _ _ t) W.last t
theorem WfC.due_sm (W : WfC T c L) (t : Nat) : Sm 2 ((amt .living (benefits c) t + amt .sure (benefits c) t : Nat) : Int) := by
  unfold benefits
  rw [amt_sure W.kind, amt_living W.kind]
  have a := ifT_le c.kind c.wait c.term t
  have b := anyC_le c.kind c.wait c.term t
  exact sm_nat (by show _ < 4; omega)
theorem WfC.end_sm (W : WfC T c L) (t : Nat) : Sm 7 ((amt .dying (benefits c) t : Nat) : Int) := by
  unfold benefits
  rw [amt_dying W.kind]
  have a := endP_le (k := c.kind) (m := c.wait) W.term t
  exact sm_nat (by show _ < 128; omega)
theorem WfC.kept_sm (W : WfC T c L) (t : Nat) : Sm 5445 (keptParts T c L t) := by
  unfold keptParts
  refine (((W.rp_sm t).sub ((W.due_sm t).mul (W.rw_sm t))).add ?_).mono (by decide)
  have h := ifT_le 0 0 c.paying t
  rw [Int.natCast_mul, Int.natCast_mul]
  exact ((((sm_nat (a := 1) (by show _ < 2; omega)).mul (W.pay_sm 0)).mul (W.whole_sm t))).mono (by decide)
theorem WfC.endp_sm (W : WfC T c L) (t : Nat) : Sm 5449 ((endParts T c L t : Nat) : Int) := by
  unfold endParts
  rw [Int.natCast_add, Int.natCast_mul, Int.natCast_mul]
  exact ((W.end_sm t).mul (W.rw_sm t)).add (((W.sure_sm t).mul (W.get_sm 0)).mono (by decide))
end
/-! ### when a status is gone -/
def gone (T : Table) (s : Status) : Nat := T.lives.length - (if s.kind = 0 then s.x else if s.kind = 1 then max s.x s.y else min s.x s.y)
theorem gone_alive {T : Table} (W : WfT T) {s : Status} : Sd49.alive T s (gone T s) = 0 := by
  have z : ∀ x, T.lives.length ≤ x → living T x = 0 := fun x h => by
    have := (living_pos W (x := x))
    omega
  unfold Sd49.alive gone
  dsimp only
  by_cases h0 : s.kind = 0
  · rw [if_pos h0, if_pos h0]
    exact z _ (by omega)
  · rw [if_neg h0, if_neg h0]
    by_cases h1 : s.kind = 1
    · rw [if_pos h1, if_pos h1]
      by_cases q : s.x ≤ s.y
      · rw [z (s.y + _) (by omega), Nat.mul_zero]
      · rw [z (s.x + _) (by omega), Nat.zero_mul]
    · rw [if_neg h1, if_neg h1, z (s.x + _) (by omega), z (s.y + _) (by omega)]
      simp
def lastPaid (T : Table) (s : Status) (k m n : Nat) : Nat := if k = 6 then m + n else min (m + n) (gone T s)
theorem upto_of {T : Table} (W : WfT T) {s : Status} {k m n L : Nat} (hk : k ≤ 6) (hL : lastPaid T s k m n ≤ L) : Upto T s L (pays k m n) := fun p hp => by
  obtain ⟨h1, h2⟩ := pays_time hp
  unfold lastPaid at hL
  by_cases h6 : k = 6
  · rw [if_pos h6] at hL
    exact .inl (by omega)
  · rw [if_neg h6] at hL
    by_cases c : m + n ≤ L
    · exact .inl (by omega)
    · refine .inr ⟨fun z => h6 (by have := h2 z; omega), ?_⟩
      have := alive_mono W (s := s) (t := gone T s) (u := L) (by omega)
      rw [gone_alive W] at this
      omega
theorem lastPaid_le {T : Table} {s : Status} {k m n : Nat} (hm : m ≤ 120) (hn : n ≤ 120) : lastPaid T s k m n ≤ 240 := by
  unfold lastPaid
  split <;> omega
end LT
end
section
set_option linter.all false
set_option Elab.async false
namespace LX
open PySem
/-- an exception's record: its class, its dict, its traceback (none, or one whose flight is empty) -/
def XAt (h : Heap) (x : Addr) (cls : Value) (od tb : Option Addr) : Prop :=
  ∃ vs sl, h.get? x = some ⟨cls, od, .fields vs, sl⟩ ∧ match tb with
    | none => vs[1]? = some .none
    | some T => vs[1]? = some (.ref T) ∧ T ≠ x ∧ ∃ oT ts, h.get? T = some oT ∧ oT.data = .fields ts ∧ ts[3]? = some .none
/-- what stays when a frame is noted -/
structure Stay (fs : List Addr) (x : Addr) (tb : Option Addr) (h h' : Heap) : Prop where
  keep : ∀ b o, h.get? b = some o → b ∉ fs → b ≠ x → some b ≠ tb → h'.get? b = some o
  slot : ∀ b o, h.get? b = some o → b ∈ fs → ∃ sl, h'.get? b = some { o with slots := sl }
section
variable {M : Model} {A : Around} {E : Value → Shared → Prop} {s : Shared} {base : Heap} {env : Env} {outer : List Env} {L x : Addr} {cls : Value} {od tb : Option Addr} {Q : Unit → Shared → Prop}
theorem entry_x {vs : Array Value} {sl : Array (Option Value)} {head : Value} {hadNext : Bool}
    (hfr : A.frames = some (env :: outer)) (hl : s.heap.FunFrames base (env :: outer)) (hf : env.frame = some L)
    (hx : s.heap.get? x = some ⟨cls, od, .fields vs, sl⟩) (hsz : 1 < vs.size)
    (h : ∀ h' T', XAt h' x cls od (some T') → s.heap.get? T' = none → Stay ((env :: outer).filterMap (·.frame)) x none s.heap h' → Q () { s with heap := h' }) :
    wpAny M A (do
      let a ← frameOf env
      let pl ← entryPlaceOf L hadNext
      let b ← EntryCells.newEntry head a .none (rawInt L) .none pl
      setField (.ref x) 1 b) (fun _ s' => wpAny M A (setFlight (.ref x) none) Q E s') E s := by
  have hxf : x ∉ (env :: outer).filterMap (·.frame) := fun hm => by
    obtain ⟨_, o, ho, hnf⟩ := hl.mem hm
    rw [hx] at ho
    cases ho
    exact hnf vs rfl
  refine wpAny_bind (wpAny_frameOf_fun hfr hl hf fun h1 hs1 => ?_)
  refine wpAny_bind (wpAny_entryPlaceOf fun pl hpl => ?_)
  unfold EntryCells.newEntry newFields
  refine wpAny_bind (wpAny_newObj_type ?_ (hpl.sizeOk5 _ _ _ _ _))
  have x1 : h1.get? x = some ⟨cls, od, .fields vs, sl⟩ := (hs1.2.1 x hxf).trans hx
  generalize hoT : ({ cls := .type "traceback", dict := none, data := .fields ([head, .ref L, .none, rawInt L, .none] ++ (if pl.isEmpty then List.replicate 6 Value.none else pl)).toArray } : Obj) = oT
  have x2 := Heap.get?_push_of_some (h := h1) oT x1
  refine wpAny_setField x2 rfl hsz ?_
  have hTx : h1.objs.size ≠ x := Nat.ne_of_gt (Heap.lt_size x1)
  have x3 : ((h1.push oT).update x (Obj.mapFields (·.setIfInBounds 1 (Value.ref h1.objs.size)))).get? x = some ⟨cls, od, .fields (vs.setIfInBounds 1 (Value.ref h1.objs.size)), sl⟩ := Heap.get?_update_self _ x2 rfl
  have t2 : (h1.push oT).get? h1.objs.size = some oT := Heap.get?_push_size h1 (by rw [← hoT]; rfl)
  have t3 : ((h1.push oT).update x (Obj.mapFields (·.setIfInBounds 1 (Value.ref h1.objs.size)))).get? h1.objs.size = some oT := (Heap.get?_update_other _ _ (Ne.symm hTx)).trans t2
  have d1 : (vs.setIfInBounds 1 (Value.ref h1.objs.size))[1]? = some (Value.ref h1.objs.size) := by simp [hsz]
  unfold setFlight
  refine wpAny_bind (wpAny_field x3 rfl d1 ?_)
  rw [if_pos (show (Value.ref h1.objs.size != Value.none) = true from by simp)]
  have tsz : 3 < ([head, Value.ref L, Value.none, rawInt L, Value.none] ++ (if pl.isEmpty then List.replicate 6 Value.none else pl)).toArray.size := by
    simp only [List.size_toArray, List.length_append, List.length_cons, List.length_nil]
    omega
  have dT : oT.data = .fields ([head, Value.ref L, Value.none, rawInt L, Value.none] ++ (if pl.isEmpty then List.replicate 6 Value.none else pl)).toArray := by rw [← hoT]
  refine wpAny_setField t3 dT tsz (h _ h1.objs.size ?_ ?_ ⟨fun b o hb hbf hbx _ => ?_, fun b o hb hbf => ?_⟩)
  · refine ⟨_, sl, (Heap.get?_update_other _ _ hTx).trans x3, d1, hTx, _, _, Heap.get?_update_self _ t3 (Obj.isFreed_of_fields (Obj.data_mapFields dT _)), Obj.data_mapFields dT _, ?_⟩
    rw [Array.getElem?_setIfInBounds_self_of_lt tsz]
    rfl
  · have := hs1.1
    exact Heap.get?_none_of_le (by omega)
  · have b1 : h1.get? b = some o := (hs1.2.1 b hbf).trans hb
    have hbT : h1.objs.size ≠ b := Nat.ne_of_gt (Heap.lt_size b1)
    rw [Heap.get?_update_other _ _ hbT, Heap.get?_update_other _ _ (Ne.symm hbx)]
    exact Heap.get?_push_of_some _ b1
  · obtain ⟨sl', b1⟩ := hs1.2.2 b o hb
    have hbT : h1.objs.size ≠ b := Nat.ne_of_gt (Heap.lt_size b1)
    have hbx : b ≠ x := fun q => hxf (q ▸ hbf)
    refine ⟨sl', ?_⟩
    rw [Heap.get?_update_other _ _ hbT, Heap.get?_update_other _ _ (Ne.symm hbx)]
    exact Heap.get?_push_of_some _ b1
/-- a frame is noted on an exception, and its flight is emptied -/
theorem note_x (hfr : A.frames = some (env :: outer)) (hl : s.heap.FunFrames base (env :: outer)) (hf : env.frame = some L) (hx : XAt s.heap x cls od tb)
    (h : ∀ h' T', XAt h' x cls od (some T') → s.heap.get? T' = none → Stay ((env :: outer).filterMap (·.frame)) x tb s.heap h' → Q () { s with heap := h' }) :
    wpAny M A (noteFrame (.ref x) env) (fun _ s' => wpAny M A (setFlight (.ref x) none) Q E s') E s := by
  obtain ⟨vs, sl, hx, ht⟩ := hx
  unfold noteFrame
  simp only [hf]
  cases tb with
  | none =>
    have h1 : vs[1]? = some .none := ht
    refine wpAny_bind (wpAny_field hx rfl h1 ?_)
    rw [if_neg (by decide)]
    exact entry_x hfr hl hf hx (Array.getElem?_eq_some_iff.mp h1).1 h
  | some T =>
    obtain ⟨h1, hTx, oT, ts, hT, hdT, h3⟩ := ht
    refine wpAny_bind (wpAny_field hx rfl h1 ?_)
    rw [if_pos (show (Value.ref T != Value.none) = true from by simp)]
    refine wpAny_bind (wpAny_field hT hdT h3 ?_)
    rw [if_neg (show ¬ ((Value.none == rawInt L) = true) from by simp [rawInt])]
    refine wpAny_bind (wpAny_setField hT hdT (Array.getElem?_eq_some_iff.mp h3).1 ?_)
    have oth : ∀ b, b ≠ T → (s.heap.update T (Obj.mapFields (·.setIfInBounds 3 Value.none))).get? b = s.heap.get? b := fun b hb => Heap.get?_update_other _ _ (Ne.symm hb)
    have nT : ∀ b o, s.heap.get? b = some o → (∀ vs, o.data ≠ .fields vs) → b ≠ T := fun b o hb hnf q => by
      rw [q, hT] at hb
      cases hb
      exact hnf ts hdT
    refine entry_x (s := { s with heap := s.heap.update T (Obj.mapFields (·.setIfInBounds 3 Value.none)) }) hfr (hl.of_keeps fun b o hb hnf => ⟨o, (oth b (nT b o hb hnf)).trans hb, rfl⟩) hf ((oth x (Ne.symm hTx)).trans hx) (Array.getElem?_eq_some_iff.mp h1).1 fun h' T' x1 x2 x3 => h h' T' x1 ?_ ⟨fun b o hb hbf hbx hbT => ?_, fun b o hb hbf => ?_⟩
    · by_cases e : T' = T
      · subst e
        exfalso
        have z : (s.heap.update T' (Obj.mapFields (·.setIfInBounds 3 Value.none))).get? T' = some _ := Heap.get?_update_self _ hT (Obj.isFreed_of_fields (Obj.data_mapFields hdT _))
        have x2' : (s.heap.update T' (Obj.mapFields (·.setIfInBounds 3 Value.none))).get? T' = none := x2
        rw [z] at x2'
        cases x2'
      · exact (oth T' e).symm.trans x2
    · have e : b ≠ T := fun q => hbT (congrArg some q)
      exact x3.keep b o ((oth b e).trans hb) hbf hbx (by simp)
    · obtain ⟨_, o', ho', hnf⟩ := hl.mem hbf
      rw [hb] at ho'
      cases ho'
      exact x3.slot b o ((oth b (nT b o hb hnf)).trans hb) hbf
theorem leave_x (hfr : A.frames = some (env :: outer)) (hl : s.heap.FunFrames base (env :: outer)) (hf : env.frame = some L) (hx : XAt s.heap x cls od tb)
    (h : ∀ h' T', XAt h' x cls od (some T') → s.heap.get? T' = none → Stay ((env :: outer).filterMap (·.frame)) x tb s.heap h' → Q () { s with heap := h' }) :
    wpAny M A (leaving env (.ref x)) Q E s := by
  unfold leaving
  exact wpAny_bind (note_x hfr hl hf hx h)
end
end LX
end
section
set_option linter.all false
set_option Elab.async false
set_option maxRecDepth 100000
set_option maxHeartbeats 4000000
namespace LX
open PySem PySem.W PySem.Calls PyProof.Rows Builtin Builtin.ObjectAttr
/-- an exception class of the text, under Exception, as K has it -/
def xclsIn (K : Frag) (C : Addr) : Bool := match K.lookup C with
  | some ⟨_, _, .cls cd, sl⟩ => !cd.hasDel && (sl.toList[4]?).join == some (.builtin "Exception.__new__") && !cd.mro.isEmpty && cd.mro.contains (.ref C) && cd.mro.contains (.type "Exception") &&
      cd.mro.contains (.type "BaseException") && cd.mro.contains (.type "object") && !cd.mro.contains (.type "AttributeError") && !cd.mro.contains (.type "NameError") && cd.hasDict &&
      specialIn K (.ref C) "__call__" == some (some (.builtin "type.__call__")) && typeIn K (.ref C) == some (.type "type") && instIn K (.ref C) (.type "type") == some true
  | _ => false
structure XCls (M : Model) (h : Heap) (C : Addr) : Prop where
  obj : ∃ oc od cd sl, h.get? C = some ⟨oc, od, .cls cd, sl⟩ ∧ cd.hasDel = false ∧ cd.mro.isEmpty = false ∧ cd.hasDict = true
  made : Looks M h (Bind.madeBy (.ref C)) (some "Exception.__new__")
  base : Looks M h (Bind.staticBase (.ref C)) (.ref C)
  self : Looks M h (isSubtype (.ref C) (.ref C)) true
  exc : Looks M h (isSubtype (.ref C) (.type "Exception")) true
  bexc : Looks M h (isSubtype (.ref C) (.type "BaseException")) true
  attr : Looks M h (isSubtype (.ref C) (.type "AttributeError")) false
  name : Looks M h (isSubtype (.ref C) (.type "NameError")) false
  call : Looks M h (specialOf (.ref C) "__call__") (some (.builtin "type.__call__"))
  typ : Looks M h (isInstance (.ref C) (.type "type")) true
  ty : Looks M h (typeOf (.ref C)) (.type "type")
theorem xcls_of {K : Frag} {M : Model} {h : Heap} (X : K.In h) {C : Addr} (e : xclsIn K C = true) : XCls M h C := by
  unfold xclsIn at e
  split at e
  · rename_i oc od cd sl ho
    simp only [Bool.and_eq_true, Bool.not_eq_true', beq_iff_eq] at e
    obtain ⟨⟨⟨⟨⟨⟨⟨⟨⟨⟨⟨⟨e2, e3⟩, e4⟩, e5⟩, e6⟩, e7⟩, e8⟩, e9⟩, e10⟩, e11⟩, e12⟩, e13⟩, e14⟩ := e
    have hc : clsIn K C = some cd := by
      unfold clsIn
      rw [ho]
    have hm : Looks M h (mroOf (.ref C)) cd.mro := (looks_clsIn X hc).andThen .now
    obtain ⟨c, l, hl⟩ : ∃ c l, cd.mro = c :: l := by
      cases q : cd.mro with
      | nil =>
        rw [q] at e4
        cases e4
      | cons c l => exact ⟨c, l, rfl⟩
    have hmro : ∀ b r, cd.mro.contains b = r → Looks M h (isSubtype (.ref C) b) r := fun b r q => looks_mroIn X (by unfold mroIn; rw [hc, Option.bind_some, if_neg (by rw [e4]; decide), q])
    have made : Looks M h (Bind.madeBy (.ref C)) (some "Exception.__new__") := by
      intro A Q E s k q
      unfold Bind.madeBy
      refine wpAny_bind (hm A _ E s k ?_)
      rw [hl, List.forIn_cons]
      refine wpAny_bind (wpAny_bind (wpAny_bind (wpAny_bind (wpAny_loadPart (k _ _ (X _ _ ho)) (wpAny_pure ?_)))))
      dsimp only
      rw [← Array.getElem?_toList, e3]
      exact wpAny_pure (wpAny_pure (wpAny_pure q))
    refine ⟨⟨oc, od, cd, sl, X _ _ ho, e2, e4, e11⟩, made, ?_, hmro _ _ e5, hmro _ _ e6, hmro _ _ e7, hmro _ _ e9, hmro _ _ e10, looks_specialIn X e12, looks_instIn X e14, looks_typeIn X e13⟩
    intro A Q E s k q
    unfold Bind.staticBase
    refine wpAny_bind (hm A _ E s k ?_)
    rw [hl, List.forIn_cons]
    exact wpAny_bind (wpAny_bind (wpAny_bind (made A _ E s k (wpAny_pure (wpAny_pure (wpAny_pure q))))))
  · cases e
/-- an exception as it is made: no dict, no traceback -/
abbrev xobj (C t : Addr) : Obj := { cls := .ref C, data := .fields #[.ref t, .none, .none, .none, .bool false, .none] }
abbrev xtup (rest : List Value) : Obj := { cls := .type "tuple", data := .seq rest.toArray }
section
variable {prog : Program} {w : World} {A : Around} {C : Addr} {R : Result → Shared → Prop} {h : Heap} {g : Array GenState} {d : Drawn} {t : Nat} {os : OsState} {rest : List Value}
theorem xnew_code (Y : XCls (model prog w) h C) (hq : R (.ok (.ret (.ref (h.objs.size + 1)))) ⟨(h.push (xtup rest)).push (xobj C h.objs.size), g, d, t, os⟩) (hrest : rest.length ≤ sizeLine) :
    codeAny (model prog w) A (.builtin "Exception.__new__" ⟨.ref C :: rest, []⟩) R ⟨h, g, d, t, os⟩ := by
  have F := PySem.F.excBase_Exception
  have hends := F.ends
  obtain ⟨⟨oc, od, cd, sl, hC, e2, e4, e5⟩, made, base, self, exc, bexc, attr, name, call, typ, ty⟩ := Y
  refine codeAny_builtinAt F.entry ?_
  unfold Builtin.«BaseException.__new__»
  refine _root_.PySem.wpAt_bind ?_
  show _root_.PySem.wpAt _ _ _ (stack >>= _) _ _ _
  refine _root_.PySem.wpAt_bind (_root_.PySem.wpAt_stack fun p below => _root_.PySem.wpAt_of_wpAny ?_)
  wp_walk
  refine _root_.PySem.wpAt_of_wpAny ?_
  rw [F.owner]
  have here : Looks (model prog w) h (Bind.madeHere "BaseException.__new__" (.ref C)) () := base.andThen (made.andThen (Looks.of_pure (by rw [Option.map_some, F.canon]; simp)))
  dsimp only
  have ity : Looks (model prog w) h (isType (.ref C)) true := by
    unfold isType
    exact (Looks.ld hC).andThen .now
  repeat (first | simp only [Bool.not_true, Bool.false_eq_true, if_false, if_true] | lk)
  rw [if_neg (by rw [List.size_toArray]; exact Nat.not_lt.mpr hrest)]
  have hC1 := Heap.get?_push_of_some (xobj C h.objs.size) (Heap.get?_push_of_some (xtup rest) hC)
  repeat (first | simp only [e2, Bool.not_true, Bool.false_eq_true, if_false, if_true] | lk)
  rw [Heap.size_push]
  exact hq
/-- C(..) of an exception class whose __init__ is a def of the text -/
theorem xmake_code {K : Frag} {f : Addr} (X : K.In h) (Y : XCls (model prog w) h C) (hi : findIn K (.ref C) "__init__" = some (some (.ref f))) (hf : typeIn K (.ref f) = some (.type "function")) (hrest : rest.length ≤ sizeLine)
    (hq : codeAny (model prog w) (A.under (.builtin "type.__call__" ⟨.ref C :: rest, []⟩)) (.call (.ref f) ⟨.ref (h.objs.size + 1) :: rest, []⟩) (InitBack (h.objs.size + 1) R) ⟨(h.push (xtup rest)).push (xobj C h.objs.size), g, d, t, os⟩) :
    codeAny (model prog w) A (.call (.ref C) ⟨rest, []⟩) R ⟨h, g, d, t, os⟩ := by
  have Y' := Y
  have F := PySem.F.excBase_Exception
  have i0 := looks_findIn (M := model prog w) X hi
  obtain ⟨⟨oc, od, cd, sl, hC, e2, e4, e5⟩, made, base, self, exc, bexc, attr, name, call, typ, ty⟩ := Y
  refine codeAny_of_tree ?_
  show wpAny _ _ (callAny (.ref C) _) _ _ _
  refine nd_load hC ?_
  show wpAny _ _ (callAny.viaDunder (.ref C) _) _ _ _
  unfold callAny.viaDunder
  refine wpAny_bind (call.at ?_)
  dsimp only
  rw [tc_bind]
  refine wpAny_bind (wpAny_pure (wpAny_bind (wpAny_pure ?_)))
  refine wpAny_pure (a := Fin.again (.call (.builtin "type.__call__") ⟨.ref C :: rest, []⟩)) (And.intro rfl ?_)
  refine codeAny_call_builtin_at (Code.quiet_builtin _ (by decide +kernel)) entry_typeCall (check_slot tc_kind tc_split typ (tc_args _ _ _) ?_)
  unfold Builtin.«type.__call__»
  have hm : Looks (model prog w) h (mroOf (.ref C)) cd.mro := ((Looks.ld (part := none) hC).andThen .now).andThen .now
  repeat (first | simp only [e4, Bool.false_eq_true, if_false] | with_reducible refine wpAny_call ?_ | lk)
  refine codeAny_call_builtin_code (Code.quiet_builtin _ F.quiet) ?_
  simp only [checkBuiltinCall, F.newKind, F.newSplit, F.newRow]
  have here : Looks (model prog w) h (Bind.madeHere "Exception.__new__" (.ref C)) () := base.andThen (made.andThen (Looks.of_pure (by simp)))
  have hstar := F.noStar
  have ity : Looks (model prog w) h (isType (.ref C)) true := by
    unfold isType
    exact (Looks.ld hC).andThen .now
  have args : Bind.checkArgs "Exception.__new__" ⟨.any, "Exception", "Exception", .cls, [⟨"args", .varPos, false⟩, ⟨"kwargs", .varKw, false⟩]⟩ ⟨.ref C :: rest, []⟩ = pure () := by kernel_rfl
  rw [args]
  repeat (first | simp only [bne_self_eq_false, Bool.not_true, Bool.false_eq_true, if_false] | lk)
  refine xnew_code Y' ?_ hrest
  have k : ∀ b o, h.get? b = some o → ((h.push (xtup rest)).push (xobj C h.objs.size)).get? b = some o := fun b o e => Heap.get?_push_of_some _ (Heap.get?_push_of_some _ e)
  have hx : ((h.push (xtup rest)).push (xobj C h.objs.size)).get? (h.objs.size + 1) = some (xobj C h.objs.size) := by heap_get
  have t1 : Looks (model prog w) ((h.push (xtup rest)).push (xobj C h.objs.size)) (typeOf (.ref (h.objs.size + 1))) (.ref C) := (Looks.ld hx).andThen .now
  have s1 := self.keeps k
  have i1 := i0.keeps k
  have b1 := (bind_fn (M := model prog w) X (.ref (h.objs.size + 1)) hf).keeps k
  unfold isInstance callSpecial? specialOf
  repeat (first | with_reducible refine wpAny_call ?_ | lk)
  refine codeAny_mono hq fun r s' z => ?_
  rcases r with e | (v | _ | _ | _) <;> first | exact z | exact z.elim | skip
  obtain ⟨rfl, z⟩ := z
  exact wpAny_pure (wpAny_pure z)
theorem wp_neg {α : Type} {M : Model} {E : Value → Shared → Prop} {s : Shared} {Q : α → Shared → Prop} {c : Prop} [Decidable c] {a b : Sem α} (hc : ¬ c) (hb : wpAny M A b Q E s) : wpAny M A (if c then a else b) Q E s := by
  rw [if_neg hc]
  exact hb
theorem no_varPos (b : Bool) : ¬ ((b && !true) = true) := by cases b <;> decide
/-- Exception.__init__(x, ..) -/
theorem xinit {E : Value → Shared → Prop} {Q : Value → Shared → Prop} {x : Addr} {od : Option Addr} {vs : Array Value} {sl : Array (Option Value)} {t0 : Addr} (Y : XCls (model prog w) h C)
    (hx : h.get? x = some ⟨.ref C, od, .fields vs, sl⟩) (hv0 : vs[0]? = some (.ref t0)) (hrest : rest.length ≤ sizeLine)
    (hq : ∀ h' t', h'.get? x = some ⟨.ref C, od, .fields (vs.setIfInBounds 0 (.ref t')), sl⟩ → (∀ b o, b ≠ x → h.get? b = some o → h'.get? b = some o) → Q .none ⟨h', g, d, t, os⟩) :
    wpAny (model prog w) A (call (.builtin "Exception.__init__") (.ref x :: rest)) Q E ⟨h, g, d, t, os⟩ := by
  have F := PySem.F.excBase_Exception
  obtain ⟨⟨oc, od', cd, sl', hC, e2, e4, e5⟩, made, base, self, exc, bexc, attr, name, call, typ, ty⟩ := Y
  have t1 : Looks (model prog w) h (typeOf (.ref x)) (.ref C) := (Looks.ld hx).andThen .now
  have t2 : Looks (model prog w) h (isInstance (.ref x) (.type "Exception")) true := t1.andThen exc
  refine wpAny_call (codeAny_call_builtin F.init.plain F.initEntry ?_)
  simp only [checkBuiltinCall, F.initKind, F.initSplit, F.initRow]
  refine wpAny_bind (t2.at ?_)
  simp only [Bool.not_true, Bool.false_eq_true, if_false]
  unfold Bind.checkArgs
  repeat lk
  refine wp_neg (no_varPos _) ?_
  repeat lk
  refine wp_neg (by rw [List.size_toArray]; exact Nat.not_lt.mpr hrest) ?_
  have x1 := Heap.get?_push_of_some (xtup rest) hx
  have hne : ∀ b o, b ≠ x → h.get? b = some o → ((h.push (xtup rest)).update x (Obj.mapFields (·.setIfInBounds 0 (Value.ref h.objs.size)))).get? b = some o := fun b o hb e => by
    rw [Heap.get?_update_other _ _ (Ne.symm hb)]
    exact Heap.get?_push_of_some _ e
  have h0 : 0 < vs.size := (Array.getElem?_eq_some_iff.mp hv0).1
  repeat lk
  rw [hv0]
  refine wpAny_pure (wpAny_bind (wpAny_setField x1 rfl h0 ?_))
  refine wpAny_letGo ?_
  exact wpAny_pure (hq _ h.objs.size (Heap.get?_update_self _ x1 rfl) hne)
/-- the classes of the text, then Exception's own -/
def excLine : List Value → Bool
  | [.type a, .type b, .type c] => a == "Exception" && b == "BaseException" && c == "object"
  | .ref _ :: r => excLine r
  | _ => false
def xover (K : Frag) (C : Addr) : Bool := (clsIn K C).any fun cd => excLine cd.mro
theorem refuse_exc (self : Value) : ∀ {l : List Value}, excLine l = true → refuseLoop self "__setattr__" l = pure ()
  | [.type a, .type b, .type c], e => by
    simp only [excLine, Bool.and_eq_true, beq_iff_eq] at e
    obtain ⟨⟨rfl, rfl⟩, rfl⟩ := e
    exact PySem.F.store_Exception.passes self
  | .ref c :: r, e => by
    rw [refuseLoop_ref]
    exact refuse_exc self (show excLine r = true from by
      rcases r with _ | ⟨a, _ | ⟨b, r⟩⟩ <;> exact e)
theorem excLine_ne : ∀ {l : List Value}, excLine l = true → l.isEmpty = false
  | [], e => by cases e
  | _ :: _, _ => rfl
theorem excLine_obj : ∀ {l : List Value}, excLine l = true → l.contains (.type "object") = true
  | [.type a, .type b, .type c], e => by
    simp only [excLine, Bool.and_eq_true, beq_iff_eq] at e
    obtain ⟨⟨rfl, rfl⟩, rfl⟩ := e
    decide
  | .ref c :: r, e => by
    rw [List.contains_cons, excLine_obj (l := r) (by rcases r with _ | ⟨a, _ | ⟨b, r⟩⟩ <;> exact e), Bool.or_true]
/-- x.name = v: the first attribute of an exception -/
theorem xset {K : Frag} {E : Value → Shared → Prop} {Q : Unit → Shared → Prop} {x : Addr} {vs : Array Value} {sl : Array (Option Value)} {name : Str} {v : Value} (X : K.In h)
    (hs : findIn K (.ref C) "__setattr__" = some (some (.builtin "object.__setattr__"))) (hp : xover K C = true) (hd : hasDictIn K C = true) (ht : takerIn K C name = some none)
    (hx : h.get? x = some ⟨.ref C, none, .fields vs, sl⟩)
    (hq : ∀ h' dx tk, h'.get? x = some ⟨.ref C, some dx, .fields vs, sl⟩ → h'.Ns1 dx (fun y => if y = name then some v else none) → h.objs.size ≤ dx → dx ≠ x → (∀ b o, b ≠ x → h.get? b = some o → h'.get? b = some o) → Q () ⟨h', g, d, tk, os⟩) :
    wpAny (model prog w) A (setAttr (.ref x) name v) Q E ⟨h, g, d, t, os⟩ := by
  have I : InstAt h x ⟨.ref C, none, .fields vs, sl⟩ C none := ⟨hx, rfl, rfl, trivial⟩
  obtain ⟨cd, hc, ho⟩ := any_some hp
  obtain ⟨cd', hc', hdd⟩ := any_some hd
  rw [hc] at hc'
  cases hc'
  refine set_plain X I hs ?_
  have SF := PySem.F.store_object
  have ne := excLine_ne ho
  have sub : Looks (model prog w) h (isInstance (.ref x) (.type "object")) true := I.type.andThen (looks_mroIn X (by unfold mroIn; rw [hc, Option.bind_some, if_neg (by rw [ne]; decide), excLine_obj ho]))
  refine codeAny_call_builtin SF.slot.plain SF.entry ?_
  refine @check_slot (model prog w) _ _ ⟨h, g, d, t + 1, os⟩ "object.__setattr__" "object" "__setattr__" (.ref x) [.str name t, v] [] _ SF.kind SF.split sub (SF.args (.ref x) (.str name t) v) ?_
  obtain ⟨at0, ha, hr⟩ := Option.bind_eq_some_iff.mp ht
  have hm : Looks (model prog w) h (mroOf (.ref C)) cd.mro := (looks_clsIn X hc).andThen .now
  have L3 : Looks (model prog w) h (storeTaker? at0) none := by
    cases at0 with
    | none => exact .now
    | some a =>
      obtain ⟨b, hb, eb⟩ := Option.map_eq_some_iff.mp hr
      refine (looks_takesIn X hb).andThen ?_
      cases b with
      | true => cases eb
      | false => exact .now
  rw [osa_eq, refuse_eq]
  refine wpAny_bind (wpAny_bind (I.type.at (wpAny_bind (hm.at ?_))))
  rw [refuse_exc _ ho]
  refine wpAny_pure (wpAny_bind (I.type.at (wpAny_bind ((looks_findIn X ha).at (wpAny_bind (L3.at ?_))))))
  dsimp only
  have cl := looks_clsIn (M := model prog w) X hc
  repeat (first | simp only [hdd, if_true] | lk)
  have hxs : x ≠ h.objs.size := Nat.ne_of_lt (Heap.lt_size hx)
  have x1 : (h.push { cls := .type "dict", data := .dict #[] }).get? x = some ⟨.ref C, none, .fields vs, sl⟩ := Heap.get?_push_of_some _ hx
  refine wpAny_update' x1 ?_
  have x2 : ((h.push { cls := .type "dict", data := .dict #[] }).update x fun o => { cls := o.cls, dict := some h.objs.size, data := o.data, slots := o.slots }).get? x = some ⟨.ref C, some h.objs.size, .fields vs, sl⟩ := Heap.get?_update_self _ x1 rfl
  have d2 : ((h.push { cls := .type "dict", data := .dict #[] }).update x fun o => { cls := o.cls, dict := some h.objs.size, data := o.data, slots := o.slots }).get? h.objs.size = some { cls := .type "dict", data := .dict #[] } :=
    (Heap.get?_update_ne _ _ _ _ hxs.symm).trans (Heap.get?_push_at rfl rfl)
  have n2 : ((h.push { cls := .type "dict", data := .dict #[] }).update x fun o => { cls := o.cls, dict := some h.objs.size, data := o.data, slots := o.slots }).Ns h.objs.size (fun _ => none) := ⟨_, #[], _, d2, rfl, fun e he => absurd he (by simp), fun _ => rfl⟩
  refine wpAny_pure (a := some h.objs.size) ?_
  show wpAny _ _ (storeInDict h.objs.size (.str name t) name v) _ _ _
  unfold storeInDict newKeyGuard
  refine wpAny_bind (wpAny_pure (wpAny_bind (wpAny_nsSet1 (Heap.Ns1.of_empty n2) fun h' hn' hss => ?_)))
  obtain ⟨oD, esD, epD, hoD, hdD, hcD⟩ := hn'.count (Within.cons name v Within.nil)
  have lo : esD.size ≤ sizeLine := Nat.le_trans hcD (by rw [List.length_cons, List.length_nil, sizeLine_eq]; omega)
  refine wpAny_bind (wpAny_lookBehind hoD (by rw [hdD]; exact pastItsLine_dict (Nat.le_succ_of_le lo)) ?_)
  refine wpAny_pure ?_
  refine hq h' h.objs.size _ ((hss.2 x hxs).trans x2) hn' (Nat.le_refl _) hxs.symm fun b o hb e => ?_
  exact (hss.2 b (Nat.ne_of_lt (Heap.lt_size e))).trans ((Heap.get?_update_ne _ _ _ _ hb).trans (Heap.get?_push_of_some _ e))
/-- x.name of an exception -/
theorem xget {K : Frag} {E : Value → Shared → Prop} {Q : Value → Shared → Prop} {x : Addr} {ox : Obj} {od : Option Obj} {name : Str} {v : Value} {expr : Bool} (X : K.In h) (Y : XCls (model prog w) h C) (I : InstAt h x ox C od)
    (hga : findIn K (.ref C) "__getattribute__" = some (some (.builtin "BaseException.__getattribute__"))) (hk : findIn K (.ref C) "__getattr__" = some none) (hf : findObj K C od name = some (.value v)) (hh : handedIn v = true)
    (hq : Q v ⟨h, g, d, t + 1, os⟩) : wpAny (model prog w) A (getAttr (.ref x) name expr) Q E ⟨h, g, d, t, os⟩ := by
  have L0 := I.type (M := model prog w)
  have L1 := looks_findIn (M := model prog w) X hga
  have L2 := looks_findIn (M := model prog w) X hk
  have L3 := looks_find (M := model prog w) X I hf
  have f3 : ∀ self, bindSpecial (.builtin "BaseException.__getattribute__") self = pure (.builtin "BaseException.__getattribute__", [self]) := fun self => PySem.F.attr_Exception.ga.bind self
  unfold getAttr getAttrBy
  refine wpAny_bind (wpAny_mkText (wpAny_holding (wpAny_bind (L0.at (wpAny_bind (L1.at ?_))))))
  dsimp only
  have hx2 : (Value.builtin "BaseException.__getattribute__" == Value.builtin "object.__getattribute__") = false := by decide +kernel
  rw [hx2, Bool.and_false, if_neg (by decide)]
  unfold getAttrByItsOwn
  have hb : Looks (model prog w) h (hookBefore (.ref C)) none := by
    unfold hookBefore
    exact L2
  refine wpAny_bind (hb.at (wpAny_bind (wpAny_attempt (wpAny_holding ?_))))
  unfold callGetattribute
  have he : (expr && onTheHeap (Value.builtin "BaseException.__getattribute__")) = false := by cases expr <;> rfl
  rw [he, if_neg (by decide)]
  unfold boundAndCalled
  rw [f3]
  refine wpAny_bind (wpAny_pure ?_)
  show wpAny _ _ (call (.builtin "BaseException.__getattribute__") [.ref x, .str name t]) _ _ _
  have hin : Looks (model prog w) h (isInstance (.ref x) (.type "BaseException")) true := L0.andThen Y.bexc
  refine wpAny_call (codeAny_call_builtin PySem.F.attr_Exception.ga.plain PySem.F.entry_bexc_ga ?_)
  refine @check_slot (model prog w) _ _ ⟨h, g, d, t + 1, os⟩ "BaseException.__getattribute__" "BaseException" "__getattribute__" (.ref x) [.str name t] [] _ (by decide +kernel) (by decide +kernel) hin (PySem.F.args_bexc_ga _ _) ?_
  unfold Builtin.«object.__getattribute__»
  repeat lk
  show wpAny _ _ (handedOut v) _ _ _
  rw [handedOut_of hh]
  exact wpAny_pure hq
/-- an exception that was made is raised -/
theorem xraise {env : Env} {E : Value → Shared → Prop} {Q : Flow → Shared → Prop} {s : Shared} {m : Sem Value} (hh : A.handled = none)
    (hm : wpAny (model prog w) A m (fun v s1 => ∃ x C od vs sl, v = .ref x ∧ XCls (model prog w) s1.heap C ∧ s1.heap.get? x = some ⟨.ref C, od, .fields vs, sl⟩ ∧ vs[1]? = some .none ∧ E (.ref x) s1) E s) :
    wpAny (model prog w) A (raiseStmt env (some m) none) Q E s := by
  unfold raiseStmt
  refine wpAny_bind (wpAny_mono hm (fun v s1 h1 => ?_) fun _ _ z => z)
  obtain ⟨x, C, od, vs, sl, rfl, Y, hx, hv, hE⟩ := h1
  obtain ⟨hp, g, d, tk, os⟩ := s1
  have t1 : Looks (model prog w) hp (typeOf (.ref x)) (.ref C) := (Looks.ld hx).andThen .now
  have t2 : Looks (model prog w) hp (isInstance (.ref x) (.type "BaseException")) true := t1.andThen Y.bexc
  have t3 : Looks (model prog w) hp (isType (.ref x)) false := by
    unfold isType
    exact (Looks.ld hx).andThen .now
  have t4 := Y.ty
  have hx' : hp.get? x = some ⟨.ref C, od, .fields vs, sl⟩ := hx
  repeat (first | simp only [Bool.false_eq_true, if_false, if_true] | lk)
  rw [hv]
  refine wpAny_pure ?_
  rw [if_neg (by decide)]
  exact wpAny_pure (wpAny_raiseNew_none hh hE)
/-- an exception's class is, or stands under, the class at R -/
theorem xmatch {E : Value → Shared → Prop} {Q : Bool → Shared → Prop} {x B : Addr} {ox : Obj} (Y : XCls (model prog w) h B) (hs : Looks (model prog w) h (isSubtype (.ref C) (.ref B)) true) (hx : h.get? x = some ox) (hc : ox.cls = .ref C)
    (hq : Q true ⟨h, g, d, t, os⟩) : wpAny (model prog w) A (excMatches (.ref x) (.ref B)) Q E ⟨h, g, d, t, os⟩ := by
  obtain ⟨⟨oc, od', cd, sl', hC, e2, e4, e5⟩, made, base, self, exc, bexc, attr, name, call, typ, ty⟩ := Y
  have t0 := tc_notTuple
  have t1 : Looks (model prog w) h (typeOf (.ref x)) (.ref C) := hc ▸ (Looks.ld hx).andThen .now
  have t2 : Looks (model prog w) h (isInstance (.ref B) (.type "tuple")) false := ty.andThen (Looks.of_pure t0)
  have t3 : Looks (model prog w) h (isType (.ref B)) true := by
    unfold isType
    exact (Looks.ld hC).andThen .now
  unfold excMatches
  repeat (first | simp only [Bool.false_eq_true, if_false, if_true] | lk)
  exact hq
/-- Exception.__init__, read off the class -/
theorem xbase_find (K : Frag) : findCls K (.type "Exception") (.type "type") "__init__" = some (.val (.builtin "Exception.__init__")) := by kernel_rfl
theorem xbase_meth {K : Frag} {E : Value → Shared → Prop} {Q : Value × List Value → Shared → Prop} {pl : Sem Bool} (X : K.In h) (hq : Q (.builtin "Exception.__init__", []) ⟨h, g, d, t + 1, os⟩) :
    wpAny (model prog w) A (getMethod (.type "Exception") "__init__" pl) Q E ⟨h, g, d, t, os⟩ := by
  have ty : Looks (model prog w) h (typeOf (.type "Exception")) (.type "type") := Looks.of_pure (by kernel_rfl)
  have ga : Looks (model prog w) h (specialOf (.type "Exception") "__getattribute__") (some (.builtin "type.__getattribute__")) := ty.andThen (Looks.of_pure KF.slot_tga.lookup)
  have op : Looks (model prog w) h (opaqueClassAbove (.type "Exception")) none := Looks.of_pure (by kernel_rfl)
  have hk : Looks (model prog w) h (hookBefore (.type "type")) none := Looks.of_pure (by kernel_rfl)
  unfold getMethod
  refine wpAny_bind (ga.at ?_)
  dsimp only
  rw [if_pos canon_tga]
  refine wpAny_bind ?_
  refine cls_open (hook := none) X op ty (by kernel_rfl) hk (by kernel_rfl) (xbase_find K) (wpAny_pure ?_)
  show wpAny _ _ (handedOut (.builtin "Exception.__init__")) _ _ _
  rw [handedOut_of (by decide +kernel)]
  exact wpAny_pure (wpAny_pure hq)
end
end LX
end
section
set_option linter.all false
set_option Elab.async false
set_option maxRecDepth 100000
set_option maxHeartbeats 2000000
namespace L2
open PySem PySem.Spec PyProof.Rows LX
/-! ### exceptions that leave a def -/
section
variable {P : Program} {w : World} {H H' : Hp} {h h1 h2 : Heap} {a x : Addr} {o : HO} {fs fs' : List Addr} {tb : Option Addr}
theorem ObjOk.there (z : ObjOk P w H h a o) : ∃ ob, h.get? a = some ob := by
  cases o with
  | lst xs => obtain ⟨_, _, _, _, e⟩ := z; exact ⟨_, e⟩
  | tup xs => obtain ⟨_, _, _, ob, e, _⟩ := z; exact ⟨ob, e⟩
  | dK kvs => obtain ⟨_, _, _, _, ob, _, _, e, _⟩ := z; exact ⟨ob, e⟩
  | dT kvs => obtain ⟨_, _, _, _, ob, _, _, e, _⟩ := z; exact ⟨ob, e⟩
  | set S n => obtain ⟨ob, _, _, _, e, _⟩ := z; exact ⟨ob, e⟩
  | ins C dx fs => obtain ⟨_, _, _, e, _⟩ := z; exact ⟨_, e⟩
  | own y => exact z
  | xd fs => obtain ⟨_, ⟨_, _, _, e, _⟩, _⟩ := z; exact ⟨_, e⟩
  | rng lo hi => obtain ⟨_, _, _, e⟩ := z; exact ⟨_, e⟩
  | frz ob u => obtain ⟨e, _⟩ := z; exact ⟨_, e⟩
  | tbl ps => exact ⟨_, z⟩
  | met f y => exact ⟨_, z⟩
  | ext φ => obtain ⟨_, e, _⟩ := z; exact e
theorem HOk.none_of (k : HOk P w H h) (e : h.get? a = none) : H a = none := by
  cases q : H a with
  | none => rfl
  | some o =>
    obtain ⟨ob, e2⟩ := (k a o q).there
    rw [e] at e2
    cases e2
theorem un_stay (u : Un fs [] H H' h h1) (st : Stay fs' x tb h1 h2) (s1 : ∀ b ∈ fs, b ∈ fs') (s2 : ∀ b ∈ fs', b ∈ fs ∨ h.get? b = none) (hx : h.get? x = none) (hT : ∀ T, tb = some T → h.get? T = none) : Un fs [] H H' h h2 := by
  have nx : ∀ b o, h.get? b = some o → b ≠ x := fun b o e q => by
    rw [q, hx] at e
    cases e
  have nT : ∀ b o, h.get? b = some o → some b ≠ tb := fun b o e q => by
    rw [hT b q.symm] at e
    cases e
  have nf : ∀ b o, h.get? b = some o → b ∉ fs → b ∉ fs' := fun b o e hb hb' => by
    rcases s2 b hb' with z | z
    · exact hb z
    · rw [z] at e
      cases e
  refine ⟨fun b o e n hb hex => st.keep b o (u.keep b o e n hb hex) (nf b o e hb) (nx b o e) (nT b o e), fun b o e n hb hex => ?_, u.free, fun b o e hex => ?_, u.tups, u.frzs, u.tbls⟩
  · obtain ⟨sl, e1⟩ := u.slot b o e n hb hex
    obtain ⟨sl', e2⟩ := st.slot b _ e1 (s1 b hb)
    exact ⟨sl', e2⟩
  · obtain ⟨o', e1⟩ := u.there b o e hex
    by_cases hb : b ∈ fs'
    · obtain ⟨sl', e2⟩ := st.slot b _ e1 hb
      exact ⟨_, e2⟩
    · exact ⟨_, st.keep b o' e1 hb (nx b o e) (nT b o e)⟩
theorem hok_stay (k : HOk P w H h1) (st : Stay fs' x tb h1 h2) (s1 : ∀ b ∈ fs', H b = none) (hx : H x = none) (hT : ∀ T, tb = some T → H T = none) : HOk P w H h2 := fun b u e => by
  have tr : ∀ c v, H c = some v → c ∉ fs' ∧ c ≠ x ∧ some c ≠ tb := fun c v q => by
    refine ⟨fun z => ?_, fun z => ?_, fun z => ?_⟩
    · rw [s1 c z] at q
      cases q
    · rw [z, hx] at q
      cases q
    · rw [hT c z.symm] at q
      cases q
  refine (k b u e).stay (fun c v hc q => ?_) (fun _ q => q) fun _ _ q => q
  have z : c ∉ fs' ∧ c ≠ x ∧ some c ≠ tb := by
    rcases hc with hc | hc
    · rw [hc]
      exact tr b u e
    · exact tr c _ hc
  exact st.keep c v q z.1 z.2.1 z.2.2
end
/-- how an exception lies behind a call: x of the class cls, its dict at dx -/
def CXR (P : Program) (w : World) : CXT := fun outer H s E e s' =>
  ∃ (x T dx : Addr) (cls : Value) (H' : Hp), e = .ref x ∧ s'.os = s.os ∧ AllBare s'.gens ∧ Un (frs outer) [] H H' s.heap s'.heap ∧ HOk P w H' s'.heap ∧
    XAt s'.heap x cls (some dx) (some T) ∧ s.heap.get? x = none ∧ s.heap.get? T = none ∧ H' x = none ∧ H' T = none ∧ E cls (some dx) H'
section
variable {P : Program} {w : World} {K : PySem.W.Frag} {mg : Str → Option Value} {base : Heap} {N : List Str} {qual : Str} {scope : Scope} {f : Addr} {cd : Value} {A : Around} {outer : List Env} {s : Shared} {H : Hp} {E : XK}
/-- an exception leaves the frame -/
theorem leave_cx {pins : List (Addr × Obj)} {σ : St} {H' : Hp} {s' : Shared} {x dx : Addr} {cls : Value} {tb : Option Addr}
    (J : Inv (cxOf (CXR P w) P w K mg base N qual scope f cd A outer s H E) pins σ H' s') (hx : XAt s'.heap x cls (some dx) tb) (x0 : s.heap.get? x = none) (t0 : ∀ T, tb = some T → s.heap.get? T = none)
    (hx' : H' x = none) (ht : ∀ T, tb = some T → H' T = none) (hE : E cls (some dx) H') : (cxOf (CXR P w) P w K mg base N qual scope f cd A outer s H E).xe (.ref x) s' := by
  have hL : s.heap.get? s.heap.objs.size = none := Heap.get?_none_of_le (Nat.le_refl _)
  refine leave_x (base := base) (outer := outer) J.ok.frames J.stack rfl hx fun h' T' x1 x2 x3 => ?_
  have un0 : Un (frs outer) [] H H' s.heap s'.heap := J.base
  have fr : ∀ b ∈ List.filterMap (·.frame) (envOfC qual scope s.heap.objs.size f cd :: outer), b = s.heap.objs.size ∨ b ∈ frs outer := fun b hb => by
    rw [List.filterMap_cons] at hb
    exact List.mem_cons.mp hb
  have T0 : s.heap.get? T' = none := by
    cases q : s.heap.get? T' with
    | none => rfl
    | some o =>
      obtain ⟨o', e'⟩ := un0.there T' o q (by simp)
      rw [x2] at e'
      cases e'
  refine ⟨x, T', dx, cls, H', rfl, J.os, J.bare, un_stay un0 x3 (fun b hb => ?_) (fun b hb => ?_) x0 t0, hok_stay J.hok x3 (fun b hb => J.stkFree b hb) hx' ht, x1, x0, T0, hx', J.hok.none_of x2, hE⟩
  · rw [List.filterMap_cons]
    exact List.mem_cons_of_mem _ hb
  · rcases fr b hb with z | z
    · rw [z]
      exact .inr hL
    · exact .inl z
/-- what a callee raises passes on -/
theorem pass_cx : Passes (CXR P w) (cxOf (CXR P w) P w K mg base N qual scope f cd A outer s H E) E := by
  intro pins σ H1 s1 e s' I hx
  obtain ⟨x, T, dx, cls, H', rfl, os, bare, un, hok, xa, x0, t0, hx', ht, hE⟩ := hx
  have J := I.call' (ch := []) os un hok bare fun b hb => nomatch hb
  have up : ∀ b, s1.heap.get? b = none → s.heap.get? b = none := fun b e => by
    cases q : s.heap.get? b with
    | none => rfl
    | some o =>
      obtain ⟨o', e'⟩ := I.base.there b o q (by show b ∉ ([] : List Addr); simp)
      rw [e] at e'
      cases e'
  refine leave_cx J xa (up x x0) (fun T' q => ?_) hx' (fun T' q => ?_) hE
  · cases q
    exact up _ t0
  · cases q
    exact ht
/-- a def whose exceptions are told -/
theorem Fun.okX {x qual : Str} {st : Stmt} {f : Addr} {fd : FuncData} {N ps : List Str} {k : Nat} {sp : Sp} (F : Fun K x qual st f fd) (S : FnScope N ps (defScope st)) (len : ∀ vs H Q E, sp vs H Q E → vs.length = ps.length)
    (hbody : ∀ (cdv : Value) (A : Around) (outer : List Env) (s : Shared) (H : Hp) (vs : List V) (Q : VK) (E : XK), Room k (A.deeper (envOfC qual (defScope st) s.heap.objs.size f cdv)) → sp vs H Q E →
      ∃ t, PSs (cxOf (CXR P w) P w K mg base N qual (defScope st) f cdv A outer s H E) (defBody st) t ∧ t { nx := fun _ H' => Q .non H', rt := Q } (start N vs) H) : FnOk P w K mg base (CXR P w) (k + 1) f fd ps sp := by
  obtain ⟨oc, od, kV, doc, pm, an, cdv, ct, osl, rfl, lk, hcd⟩ := F.ex
  exact fn_of lk hcd S len fun A outer s H vs Q E hr hsp => hbody cdv A outer s H vs Q E hr hsp
end
end L2
end
section
set_option linter.all false
set_option Elab.async false
set_option maxRecDepth 100000
set_option maxHeartbeats 2000000
namespace L2
open PySem PySem.Spec PyProof.Rows LX
/-! ### exceptions of the text's own classes: made, set, raised -/
/-- an exception at x that was not raised yet: its class, its dict -/
def xoP (x C : Addr) (od : Option Addr) (h : Heap) : Prop := ∃ vs sl t0, h.get? x = some ⟨.ref C, od, .fields vs, sl⟩ ∧ vs[0]? = some (.ref t0) ∧ vs[1]? = some .none
def xo (x C : Addr) (od : Option Addr) : HO := .ext (xoP x C od)
/-- one that was caught -/
def xhP (x C dx : Addr) (h : Heap) : Prop := ∃ vs sl, h.get? x = some ⟨.ref C, some dx, .fields vs, sl⟩
def xh (x C dx : Addr) : HO := .ext (xhP x C dx)
section
variable {P : Program} {w : World} {H : Hp} {h : Heap} {x C : Addr} {od : Option Addr}
theorem xo_ok (z : xoP x C od h) : ObjOk P w H h x (xo x C od) := by
  obtain ⟨vs, sl, t0, e, r⟩ := id z
  refine ⟨z, ⟨_, e⟩, fun h1 h2 p k => ?_⟩
  obtain ⟨vs', sl', t0', e', r'⟩ := p
  exact ⟨vs', sl', t0', k _ e', r'⟩
theorem xo_at (z : ObjOk P w H h x (xo x C od)) : xoP x C od h := z.1
theorem xh_ok {dx : Addr} (z : xhP x C dx h) : ObjOk P w H h x (xh x C dx) := by
  obtain ⟨vs, sl, e⟩ := id z
  refine ⟨z, ⟨_, e⟩, fun h1 h2 p k => ?_⟩
  obtain ⟨vs', sl', e'⟩ := p
  exact ⟨vs', sl', k _ e'⟩
theorem xh_at {dx : Addr} (z : ObjOk P w H h x (xh x C dx)) : xhP x C dx h := z.1
end
/-- C(..), C an exception class of the text -/
def tXMake (C : Addr) (sp : Sp) (E : XK) (t : TA) : TE := fun σ H Q => t σ H fun vs H1 => vs.length ≤ sizeLine ∧ ∀ x, H1 x = none → sp (.ref x :: vs) (upd H1 x (xo x C none)) (fun v H2 => v = .non ∧ Q (.ref x) H2) E
/-- what K says of an exception class: R the class that is caught -/
structure XC (K : PySem.W.Frag) (C f : Addr) : Prop where
  cls : xclsIn K C = true
  init : PySem.W.findIn K (.ref C) "__init__" = some (some (.ref f))
  fn : PySem.W.isFn K (.ref f) = true
  kp : PySem.W.keepIn K (.ref C) = true
section
variable {X : Cx} {CX : CXT} {k : Nat} {f C : Addr} {fd : FuncData} {ps : List Str} {sp : Sp} {E : XK} {x m : Str} {p pos apos : Pos} {e o : Expr} {es : List Expr} {ta tv : TE} {t : TA}
theorem run_xmake {pins : List (Addr × Obj)} {σ : St} {H : Hp} {s : Shared} {Q : VK} {us : List Value} {vs : List V} (M : XC X.K C f) (F : FnOk X.prog X.w X.K X.mg X.base CX k f fd ps sp) (hr : Room (k + 1) X.A) (hb : Binds X.K fd ps [])
    (hx : Passes CX X E) (I : Inv X pins σ H s) (r : Vals vs us) (hlen : vs.length ≤ sizeLine)
    (h : ∀ x, H x = none → sp (.ref x :: vs) (upd H x (xo x C none)) (fun v H2 => v = .non ∧ Q (.ref x) H2) E) :
    wpAny (model X.prog X.w) X.A (call (.ref C) us) (EP X pins σ Q) X.xe s := by
  have hq := h (s.heap.objs.size + 1) (I.hok.fresh (Nat.le_succ _))
  obtain ⟨hh, g, d, t, os⟩ := s
  have keep : ∀ b o, hh.get? b = some o → ((hh.push (xtup us)).push (xobj C hh.objs.size)).get? b = some o := fun b o e => Heap.get?_push_of_some _ (Heap.get?_push_of_some _ e)
  have hget : ((hh.push (xtup us)).push (xobj C hh.objs.size)).get? (hh.objs.size + 1) = some (xobj C hh.objs.size) := by heap_get
  have I2 : Inv X pins σ (upd H (hh.objs.size + 1) (xo (hh.objs.size + 1) C none)) ⟨(hh.push (xtup us)).push (xobj C hh.objs.size), g, d, t, os⟩ :=
    I.laid (a := hh.objs.size + 1) (o := xo (hh.objs.size + 1) C none) (t' := t) keep (Nat.le_succ _) (xo_ok ⟨_, _, _, hget, rfl, rfl⟩)
  have r2 : Vals (V.ref (hh.objs.size + 1) :: vs) (Value.ref (hh.objs.size + 1) :: us) := .cons rfl r
  have hl : (Value.ref (hh.objs.size + 1) :: us ++ []).length = ps.length := by
    have e := r2.length
    rw [F.len _ _ _ _ hq] at e
    rw [List.append_nil]
    exact e.symm
  have hul : us.length ≤ sizeLine := by rw [← r.length]; exact hlen
  have run := F.run _ X.stack _ _ ⟨Value.ref (hh.objs.size + 1) :: us, []⟩ (Value.ref (hh.objs.size + 1) :: us) _ _ E (hr.make C us []) (I2.env0.make C us []) (by
    have z := hb _ (Value.ref (hh.objs.size + 1) :: us) I2.kIn hl
    rw [List.append_nil] at z
    exact z) r2 hq
  refine wpAny_call (xmake_code I.kIn (xcls_of I.kIn M.cls) M.init (beq_iff_eq.mp M.fn) hul (codeAny_mono run fun r s' hq' => ?_))
  cases r with
  | error e => exact hx pins σ _ _ e s' I2 hq'
  | ok fl =>
    cases fl with
    | ret u =>
      obtain ⟨v, H', I3, rv, ev, q3⟩ := I2.after hq'
      subst ev
      exact ⟨rv, ⟨V.ref (hh.objs.size + 1), H', I3, rfl, q3⟩⟩
    | next => exact False.elim hq'
    | brk => exact False.elim hq'
    | cont => exact False.elim hq'
theorem pe_xmake (M : XC X.K C f) (F : FnOk X.prog X.w X.K X.mg X.base CX k f fd ps sp) (hr : Room (k + 1) X.A) (hg : Gl X x) (hm : X.mg x = some (.ref C)) (hb : Binds X.K fd ps []) (hx : Passes CX X E)
    (ha : PA X (e :: es) t) (hdb : (x == ("__debug__" : Str)) = false := by decide) (he : starEach (e :: es) X.env = (false, eval e X.env) :: starEach es X.env := by rfl) (hpl : (backTo pos (starEach es X.env)).any (·.1) = false := by rfl) :
    PE X (.Call (.Name x p) (e :: es) [] pos) (tXMake C sp E t) := by
  intro pins s σ H Q I h
  refine wpAny_Call_Name_kw (ld_glob I hg hm ?_ hdb)
  refine PySem.W.callWith_K (h₀ := X.base) I.ok.mod.kin M.kp (thn (ha pos pins s σ H _ I h) fun us s1 ⟨vs, H1, I1, r, hl, q⟩ => ⟨I1.kIn, ?_⟩) he hpl
  exact run_xmake M F hr hb hx I1 r hl q
theorem pe_xmake0 (M : XC X.K C f) (F : FnOk X.prog X.w X.K X.mg X.base CX k f fd ps sp) (hr : Room (k + 1) X.A) (hg : Gl X x) (hm : X.mg x = some (.ref C)) (hb : Binds X.K fd ps []) (hx : Passes CX X E)
    (hdb : (x == ("__debug__" : Str)) = false := by decide) : PE X (.Call (.Name x p) [] [] pos) (tXMake C sp E tNil) := by
  intro pins s σ H Q I h
  refine wpAny_Call_Name_kw (ld_glob I hg hm ?_ hdb)
  exact PySem.W.callWith_K0 I.kIn M.kp (run_xmake (us := []) (vs := []) M F hr hb hx I .nil h.1 h.2)
/-- B.m(..), B a class of the text, m a def of its body -/
structure CM (K : PySem.W.Frag) (B f : Addr) (m : Str) : Prop where
  rd : PySem.W.readsIn K B (.type "type") = true
  fnd : PySem.W.findCls K (.ref B) (.type "type") m = some (.val (.ref f))
  sp : PySem.W.specialIn K (.ref B) "__getattribute__" = some (some (.builtin "type.__getattribute__"))
  kp : PySem.W.keepIn K (.ref f) = true
theorem pe_cmeth {B : Addr} {pl : Sem Bool} (C : CM X.K B f m) (F : FnOk X.prog X.w X.K X.mg X.base CX k f fd ps sp) (hr : Room k X.A) (hg : Gl X x) (hm : X.mg x = some (.ref B)) (hb : Binds X.K fd ps []) (hx : Passes CX X E) (ha : PA X (e :: es) t)
    (hdb : (x == ("__debug__" : Str)) = false := by decide)
    (hst : starEach (e :: es) X.env = (false, eval e X.env) :: starEach es X.env := by rfl) (hpl : (backTo pos (starEach es X.env)).any (·.1) = false := by rfl)
    (ht : eval (.Call (.Attribute (.Name x p) m apos) (e :: es) [] pos) X.env = (do
      let ov ← eval (.Name x p) X.env
      standAt apos.atName
      let (f, first) ← holding [ov] (getMethod ov m pl)
      callWith pos f first (backTo pos (starEach (e :: es) X.env)) (backToKw pos (keywordEach [] X.env))) := by rfl) :
    PE X (.Call (.Attribute (.Name x p) m apos) (e :: es) [] pos) (tCall sp [] E t) := by
  intro pins s σ H Q I h
  refine PySem.W.methodCall_KW (pl := pl) (ld_glob I hg hm ?_ hdb) ht
  refine PySem.W.method_cls I.kIn C.sp (PySem.W.cls_value I.kIn C.rd C.fnd rfl ?_)
  have I0 := I.tok (s.toks + 1)
  refine PySem.W.callWith_K (first := []) (h₀ := X.base) I.ok.mod.kin C.kp (thn (ha pos pins _ σ H _ I0 h) fun us s2 ⟨vs, H2, I2, r, q2⟩ => ⟨I2.kIn, ?_⟩) hst hpl
  exact run_fn (us := us) (vs := vs) F hr hb .nil hx I2 r q2
/-- Exception.__init__(x, ..) of an exception that is being made -/
def tXInit (K : PySem.W.Frag) (t : TA) : TE := fun σ H Q => t σ H fun vs H1 => vs.length ≤ sizeLine ∧ ∃ (a C : Addr) (od : Option Addr) (rest : List V), vs = .ref a :: rest ∧ H1 a = some (xo a C od) ∧ xclsIn K C = true ∧ Q .non H1
theorem upd_id {H : Hp} {a : Addr} {o : HO} (e : H a = some o) : upd H a o = H := by
  funext b
  unfold upd
  split
  · rename_i q
    rw [q, e]
  · rfl
theorem boot_Exception : bootBuiltins "Exception" = some (.type "Exception") := by decide +kernel
theorem pe_xinit {pl : Sem Bool} (hg : Gl X "Exception") (hm : X.mg "Exception" = none) (ha : PA X (e :: es) t)
    (hst : starEach (e :: es) X.env = (false, eval e X.env) :: starEach es X.env := by rfl) (hpl : (backTo pos (starEach es X.env)).any (·.1) = false := by rfl)
    (ht : eval (.Call (.Attribute (.Name "Exception" p) "__init__" apos) (e :: es) [] pos) X.env = (do
      let ov ← eval (.Name "Exception" p) X.env
      standAt apos.atName
      let (f, first) ← holding [ov] (getMethod ov "__init__" pl)
      callWith pos f first (backTo pos (starEach (e :: es) X.env)) (backToKw pos (keywordEach [] X.env))) := by rfl) :
    PE X (.Call (.Attribute (.Name "Exception" p) "__init__" apos) (e :: es) [] pos) (tXInit X.K t) := by
  intro pins s σ H Q I h
  refine PySem.W.methodCall_KW (pl := pl) (ld_blt I hg hm boot_Exception ?_ (by decide) (by decide)) ht
  have I0 := I.tok (s.toks + 1)
  obtain ⟨hh, g, d, tk, os⟩ := s
  refine xbase_meth I.kIn ?_
  have hA := ha pos pins _ σ H _ I0 h
  rw [hst] at hA ⊢
  refine Calls.callWith_builtin (by show (false || (backTo pos (starEach es X.env)).any (·.1)) = false; rw [hpl] <;> rfl) (Calls.evalArgs_plain ?_)
  refine thn hA fun us s2 ⟨vs, H2, I2, r2, hl, a, C, od, rest, ev, ea, hc, q2⟩ => ?_
  subst ev
  obtain ⟨vs', sl, t0, e1, e2, e3⟩ := xo_at (I2.hok a _ ea)
  cases us with
  | nil => cases r2
  | cons u us' =>
    obtain ⟨ra, rr⟩ : RelV (.ref a) u ∧ Vals rest us' := by
      cases r2 with
      | cons ra rr => exact ⟨ra, rr⟩
    obtain rfl : u = Value.ref a := ra
    obtain ⟨hh2, g2, d2, tk2, os2⟩ := s2
    refine xinit (xcls_of I2.kIn hc) e1 e2 (by rw [← rr.length]; simp only [List.length_cons] at hl; omega) fun h' t' k1 k2 => ?_
    have I3 := I2.write (x := a) (e := a) (o := xo a C od) (t' := tk2) (by rw [ea]; exact True.intro) (.inl rfl) (fun b q hb z => k2 b q hb z) ⟨_, k1⟩ (xo_ok ⟨_, sl, t', k1, by
      rw [Array.getElem?_setIfInBounds_self_of_lt (Array.getElem?_eq_some_iff.mp e2).1], by
      rw [Array.getElem?_setIfInBounds_ne (by decide)]
      exact e3⟩)
    rw [upd_id ea] at I3
    exact ⟨.non, H2, I3, rfl, q2⟩
/-- x.f = v: the first attribute of an exception that is being made -/
structure XSet (K : PySem.W.Frag) (C : Addr) (f : Str) : Prop where
  sa : PySem.W.findIn K (.ref C) "__setattr__" = some (some (.builtin "object.__setattr__"))
  ov : xover K C = true
  hd : PySem.W.hasDictIn K C = true
  tk : PySem.W.takerIn K C f = some none
def sXSet (K : PySem.W.Frag) (ta tv : TE) (f : Str) : TS := fun D σ H => tv σ H fun y H1 => ta σ H1 fun x H2 => ∃ a C, x = .ref a ∧ H2 a = some (xo a C none) ∧ XSet K C f ∧
  ∀ dx, H2 dx = none → dx ≠ a → D.nx σ (upd (upd H2 dx (.xd [(f, y)])) a (xo a C (some dx)))
theorem Inv.xset {pins : List (Addr × Obj)} {σ : St} {H : Hp} {s : Shared} {h' : Heap} {tk : Nat} {a C dx : Addr} {name : Str} {y : V} {u : Value} {vs : Array Value} {sl : Array (Option Value)} {t0 : Addr} (I : Inv X pins σ H s) (ea : H a = some (xo a C none)) (ry : RelV y u)
    (k1 : h'.get? a = some ⟨.ref C, some dx, .fields vs, sl⟩) (e2 : vs[0]? = some (.ref t0)) (e3 : vs[1]? = some .none) (k2 : h'.Ns1 dx (fun z => if z = name then some u else none)) (k3 : s.heap.objs.size ≤ dx) (k4 : dx ≠ a)
    (k5 : ∀ b o, b ≠ a → s.heap.get? b = some o → h'.get? b = some o) : Inv X pins σ (upd (upd H dx (.xd [(name, y)])) a (xo a C (some dx))) { s with heap := h', toks := tk } := by
  have hd : H dx = none := I.hok.fresh k3
  have na : ∀ b, H b = none → b ≠ a := fun b n q => by
    rw [q, ea] at n
    cases n
  have nd : ∀ b o, s.heap.get? b = some o → b ≠ dx := fun b o e q => by
    subst q
    exact absurd (Nat.lt_of_lt_of_le (Heap.lt_size e) k3) (Nat.lt_irrefl _)
  have nx : ∀ b o, H b = some o → b ≠ dx := fun b o e q => by
    rw [q, hd] at e
    cases e
  have tr : ∀ b o, H b = some o → b ≠ a → upd (upd H dx (.xd [(name, y)])) a (xo a C (some dx)) b = some o := fun b o e q => by
    rw [upd_ne q, upd_ne (nx b o e)]
    exact e
  have ne : ∀ {b : Addr} {o : HO}, H b = some o → (∀ φ, o ≠ .ext φ) → b ≠ a := fun {b o} e q z => by
    rw [z, ea] at e
    cases e
    exact q _ rfl
  refine I.un ⟨fun b o e n _ _ => k5 b o (na b n) e, fun b o e n _ _ => ⟨o.slots, k5 b o (na b n) e⟩, fun b o e n _ => ?_, fun b o e _ => ?_, fun b xs e => tr b _ e (ne e (by intro φ z; cases z)), fun b o u e => tr b _ e (ne e (by intro φ z; cases z)), fun b ps e => ⟨#[], ?_⟩⟩ ?_
  · rw [upd_ne (na b n), upd_ne (nd b o e)]
    exact n
  · by_cases q : b = a
    · rw [q]
      exact ⟨_, k1⟩
    · exact ⟨o, k5 b o q e⟩
  · rw [tr b _ e (ne e (by intro φ z; cases z))]
    simp
  · intro b o e
    by_cases q : b = a
    · subst q
      rw [upd_same] at e
      cases e
      exact xo_ok ⟨vs, sl, t0, k1, e2, e3⟩
    · rw [upd_ne q] at e
      by_cases q2 : b = dx
      · subst q2
        rw [upd_same] at e
        cases e
        refine ⟨_, k2, fun f => ?_⟩
        by_cases q3 : f = name
        · subst q3
          simp only [if_true]
          rw [List.lookup_cons, beq_self_eq_true]
          exact ry
        · rw [if_neg q3, List.lookup_cons, show (f == name) = false from beq_eq_false_iff_ne.mpr q3]
          trivial
      · rw [upd_ne q2] at e
        refine (I.hok b o e).stay (fun c v hc r => k5 c v ?_ r) (fun c r => tr c _ r (ne r (by intro φ z; cases z))) fun c xs r => tr c _ r (ne r (by intro φ z; cases z))
        rcases hc with hc | hc
        · rw [hc]
          exact q
        · exact ne hc (by intro φ z; cases z)
theorem ps_xset {value : Expr} {f : Str} {pos' : Pos} (ha : PE X o ta) (hv : PE X value tv) (hs : swapsWith value (some (.Attribute o f pos')) pos.line X.env = pure false) : PS X (.Assign [.Attribute o f pos'] value pos) (sXSet X.K ta tv f) := by
  intro pins s σ H D I h
  refine plainObj_wpAny_Assign_Attribute (thn (hv pins s σ H _ I h) fun u s1 ⟨y, H1, I1, ry, q⟩ => thn (ha pins s1 σ H1 _ I1 q) fun ov s2 ⟨x, H2, I2, rx, a, C, ex, ea, c, q2⟩ => ?_) hs
  subst ex
  obtain rfl : ov = Value.ref a := rx
  obtain ⟨vs, sl, t0, e1, e2, e3⟩ := xo_at (I2.hok a _ ea)
  obtain ⟨hh, g, d, tk, os⟩ := s2
  refine LX.xset I2.kIn c.sa c.ov c.hd c.tk e1 fun h' dx tk' k1 k2 k3 k4 k5 => ?_
  exact ⟨σ, _, I2.xset (tk := tk') ea ry k1 e2 e3 k2 k3 k4 k5, q2 dx (I2.hok.fresh k3) k4⟩
/-- x.f of an exception that was caught -/
structure XGet (K : PySem.W.Frag) (C : Addr) (f : Str) : Prop where
  cls : xclsIn K C = true
  ga : PySem.W.findIn K (.ref C) "__getattribute__" = some (some (.builtin "BaseException.__getattribute__"))
  gt : PySem.W.findIn K (.ref C) "__getattr__" = some none
  hd : PySem.W.hasDictIn K C = true
  na : PySem.W.findIn K (.ref C) f = some none
def tXGet (K : PySem.W.Frag) (ta : TE) (f : Str) : TE := fun σ H Q => ta σ H fun x H1 => ∃ a C dx fs v, x = .ref a ∧ H1 a = some (xh a C dx) ∧ H1 dx = some (.xd fs) ∧ XGet K C f ∧ fs.lookup f = some v ∧ Q v H1
theorem pe_xget {f : Str} (he : PE X e ta) (hb : attributeBase e f X.env (eval e X.env) = eval e X.env) : PE X (.Attribute e f pos) (tXGet X.K ta f) := by
  intro pins s σ H Q I h
  refine attr_of hb (thn (he pins s σ H _ I h) fun u s1 ⟨x, H1, I1, rx, a, C, dx, fs, v, ex, ea, ed, c, l, q⟩ => ?_)
  subst ex
  obtain rfl : u = Value.ref a := rx
  obtain ⟨vs, sl, e1⟩ := xh_at (I1.hok a _ ea)
  obtain ⟨mA, n1, rel⟩ := I1.hok dx _ ed
  obtain ⟨od, ho, hl⟩ := lookIn_ns n1
  obtain ⟨u', hu, ru⟩ := RelO.some_of (v := v) (o := mA f) (by rw [← l]; exact rel f)
  have O : PySem.W.InstAt s1.heap a ⟨.ref C, some dx, .fields vs, sl⟩ C (some od) := ⟨e1, rfl, rfl, ho⟩
  have I2 := I1.tok (s1.toks + 1)
  obtain ⟨hh, g, d, tk, os⟩ := s1
  exact xget I1.kIn (xcls_of I1.kIn c.cls) O c.ga c.gt (PySem.W.findObj_own c.hd c.na rfl (by rw [hl, hu])) (handed_of ru) ⟨v, H1, I2, ru, q⟩
end
/-- nothing is tracked at x any more -/
def del (H : Hp) (x : Addr) : Hp := fun b => if b = x then none else H b
theorem del_same {H : Hp} {x : Addr} : del H x x = none := by
  unfold del
  rw [if_pos rfl]
theorem del_ne {H : Hp} {x b : Addr} (h : b ≠ x) : del H x b = H b := by
  unfold del
  rw [if_neg h]
theorem del_none {H : Hp} {x b : Addr} (h : H b = none) : del H x b = none := by
  unfold del
  split
  · rfl
  · exact h
theorem Inv.del {X : Cx} {pins : List (Addr × Obj)} {σ : St} {H : Hp} {s : Shared} {x : Addr} {φ : Heap → Prop} (I : Inv X pins σ H s) (e : H x = some (.ext φ)) : Inv X pins σ (L2.del H x) s := by
  have tr : ∀ {b : Addr} {o : HO}, H b = some o → (∀ φ, o ≠ .ext φ) → L2.del H x b = some o := fun {b o} r q => by
    rw [del_ne (fun z => by rw [z, e] at r; cases r; exact q _ rfl)]
    exact r
  refine ⟨I.ok, I.os, I.bare, ⟨I.base.keep, I.base.slot, fun b o r n hx => del_none (I.base.free b o r n hx), I.base.there, fun b xs r => tr (I.base.tups b xs r) (by intro φ z; cases z), fun b o u r => tr (I.base.frzs b o u r) (by intro φ z; cases z), fun b ps r => ?_⟩, I.loc, I.cell, del_none I.free, fun y c r => del_none (I.freeC y c r), fun p hp => ?_, fun b o r => ?_, I.len⟩
  · obtain ⟨more, q⟩ := I.base.tbls b ps r
    exact ⟨more, tr q (by intro φ z; cases z)⟩
  · obtain ⟨a1, a2, a3⟩ := I.pin p hp
    exact ⟨a1, del_none a2, a3⟩
  · have nb : b ≠ x := fun z => by
      rw [z, del_same] at r
      cases r
    rw [del_ne nb] at r
    exact (I.hok b o r).stay (fun c v _ q => q) (fun c q => tr q (by intro φ z; cases z)) fun c xs q => tr q (by intro φ z; cases z)
/-- raise C(..) -/
def tRaise (K : PySem.W.Frag) (H0 : Hp) (E : XK) (te : TE) : TS := fun D σ H => te σ H fun v H1 => ∃ x C dx, v = .ref x ∧ H1 x = some (xo x C (some dx)) ∧ xclsIn K C = true ∧ H0 x = none ∧ E (.ref C) (some dx) (del H1 x)
section
variable {P : Program} {w : World} {K : PySem.W.Frag} {mg : Str → Option Value} {base : Heap} {N : List Str} {qual : Str} {scope : Scope} {f : Addr} {cd : Value} {A : Around} {outer : List Env} {s0 : Shared} {H0 : Hp} {E : XK}
theorem ps_raise {e : Expr} {te : TE} {pos : Pos} (he : PE (cxOf (CXR P w) P w K mg base N qual scope f cd A outer s0 H0 E) e te) : PS (cxOf (CXR P w) P w K mg base N qual scope f cd A outer s0 H0 E) (.Raise (some e) none pos) (tRaise K H0 E te) := by
  intro pins s σ H D I h
  show wpAny _ _ (do standAt pos; raiseStmt _ (some (do let v ← eval e _; standAt pos; pure v)) none) _ _ s
  refine wpAny_bind (wpAny_standAt ?_)
  refine xraise (I.ok.hd rfl) (wpAny_bind (thn (he pins s σ H _ I h) fun u s1 ⟨v, H1, I1, rv, x, C, dx, ev, ex, hc, h0, hE⟩ => wpAny_bind (wpAny_standAt (wpAny_pure ?_))))
  subst ev
  obtain rfl : u = Value.ref x := rv
  obtain ⟨vs, sl, t0, e1, e2, e3⟩ := xo_at (I1.hok x _ ex)
  refine ⟨x, C, some dx, vs, sl, rfl, xcls_of I1.kIn hc, e1, e3, ?_⟩
  refine leave_cx (I1.del ex) (tb := none) ⟨vs, sl, e1, e3⟩ ?_ (fun T q => nomatch q) del_same (fun T q => nomatch q) hE
  cases q : s0.heap.get? x with
  | none => rfl
  | some ob =>
    have z := I1.base.free x ob q h0 (by show x ∉ ([] : List Addr); simp)
    rw [ex] at z
    cases z
end
end L2
end
section
set_option linter.all false
set_option Elab.async false
set_option maxRecDepth 100000
set_option maxHeartbeats 2000000
namespace LX
open PySem
/-- the flight of an exception is emptied once more -/
theorem flight_x {M : Model} {A : Around} {E : Value → Shared → Prop} {s : Shared} {x T : Addr} {cls : Value} {od : Option Addr} {Q : Unit → Shared → Prop} (hx : XAt s.heap x cls od (some T))
    (h : ∀ h', XAt h' x cls od (some T) → Stay [] x (some T) s.heap h' → Q () { s with heap := h' }) : wpAny M A (setFlight (.ref x) none) Q E s := by
  obtain ⟨vs, sl, x1, v1, nT, oT, ts, hT, dT, t3⟩ := hx
  have sz := (Array.getElem?_eq_some_iff.mp t3).1
  unfold setFlight
  refine wpAny_bind (wpAny_field x1 rfl v1 ?_)
  have e : (Value.ref T != Value.none) = true := by simp
  rw [if_pos e]
  refine wpAny_setField hT dT sz (h _ ⟨vs, sl, (Heap.get?_update_other _ _ nT).trans x1, v1, nT, _, _, Heap.get?_update_self _ hT (Obj.isFreed_of_fields (Obj.data_mapFields dT _)), Obj.data_mapFields dT _, ?_⟩ ⟨fun b o hb _ _ hbT => ?_, fun b o hb hf => nomatch hf⟩)
  · rw [Array.getElem?_setIfInBounds_self_of_lt sz]
    rfl
  · exact (Heap.get?_update_other _ _ (fun q => hbT (congrArg some q.symm))).trans hb
end LX
namespace L2
open PySem PySem.Spec PyProof.Rows LX
/-! ### try: .. except B as n: .. -/
section
variable {P : Program} {w : World} {H H' : Hp} {h h1 : Heap} {x : Addr} {o : HO} {fs : List Addr}
theorem un_track (u : Un fs [] H H' h h1) (hx : h.get? x = none) (nx : H' x = none) : Un fs [] H (upd H' x o) h h1 := by
  have tr : ∀ b v, H' b = some v → upd H' x o b = some v := fun b v e => by
    rw [upd_ne (ne_of_none e nx)]
    exact e
  refine ⟨u.keep, u.slot, fun b ob e n hb => ?_, u.there, fun b xs e => tr b _ (u.tups b xs e), fun b ob v e => tr b _ (u.frzs b ob v e), fun b ps e => ?_⟩
  · have nb : b ≠ x := fun z => by
      rw [z, hx] at e
      cases e
    rw [upd_ne nb]
    exact u.free b ob e n hb
  · obtain ⟨more, q⟩ := u.tbls b ps e
    exact ⟨more, tr b _ q⟩
theorem hok_track (k : HOk P w H' h) (nx : H' x = none) (new : ObjOk P w (upd H' x o) h x o) : HOk P w (upd H' x o) h := fun b v e => by
  by_cases q : b = x
  · subst q
    rw [upd_same] at e
    cases e
    exact new
  · rw [upd_ne q] at e
    exact (k b v e).stay (fun c z _ r => r) (fun c r => by rw [upd_ne (ne_of_none r nx)]; exact r) fun c xs r => by rw [upd_ne (ne_of_none r nx)]; exact r
end
/-- other exceptions are wished for, other pins borne -/
abbrev Cx.tried (X : Cx) (pn : List (Addr × Obj)) (xe : Value → Shared → Prop) : Cx := { X with pn := pn, xe := xe }
/-- within the suite that caught x -/
abbrev Cx.caught (X : Cx) (pn : List (Addr × Obj)) (x : Addr) : Cx := { X with A := X.A.mark (some (.ref x)), calm := false, pn := pn, xe := fun _ _ => False }
section
variable {X : Cx} {pins : List (Addr × Obj)} {σ : St} {H : Hp} {s : Shared}
theorem Cx.Ok.tried (ok : X.Ok) (pn : List (Addr × Obj)) (xe : Value → Shared → Prop) : (X.tried pn xe).Ok :=
  ⟨ok.mod, ok.kind, ok.glob, ok.blt, ok.above, ok.inj, ok.has, ok.cab, ok.hd, ok.frames, ok.stk, ok.exf, ok.bs, ok.bsz, ok.noex, ok.exfs, ok.funs, ok.frf⟩
theorem Cx.Ok.caught (ok : X.Ok) (pn : List (Addr × Obj)) (x : Addr) : (X.caught pn x).Ok :=
  ⟨ok.mod, ok.kind, ok.glob, ok.blt, ok.above, ok.inj, ok.has, ok.cab, fun z => Bool.noConfusion z, ok.frames, ok.stk, ok.exf, ok.bs, ok.bsz, ok.noex, ok.exfs, ok.funs, ok.frf⟩
theorem Inv.tried (I : Inv X pins σ H s) (xe : Value → Shared → Prop) : Inv (X.tried (X.pn ++ pins) xe) [] σ H s :=
  ⟨I.ok.tried _ _, I.os, I.bare, I.base, I.loc, I.cell, I.free, I.freeC, fun p hp => I.pin p (by rw [List.append_nil] at hp; exact hp), I.hok, I.len⟩
theorem Inv.untried {xe : Value → Shared → Prop} {more : List (Addr × Obj)} (I : Inv (X.tried (X.pn ++ pins) xe) more σ H s) (ok : X.Ok) : Inv X pins σ H s :=
  ⟨ok, I.os, I.bare, I.base, I.loc, I.cell, I.free, I.freeC, fun p hp => I.pin p (List.mem_append_left _ hp), I.hok, I.len⟩
theorem Inv.caught {xe : Value → Shared → Prop} {pn more : List (Addr × Obj)} (I : Inv (X.tried pn xe) more σ H s) (ok : X.Ok) (x : Addr) : Inv (X.caught pn x) more σ H s :=
  ⟨ok.caught _ _, I.os, I.bare, I.base, I.loc, I.cell, I.free, I.freeC, I.pin, I.hok, I.len⟩
theorem Inv.uncaught {x : Addr} {more : List (Addr × Obj)} (I : Inv (X.caught (X.pn ++ pins) x) more σ H s) (ok : X.Ok) : Inv X pins σ H s :=
  ⟨ok, I.os, I.bare, I.base, I.loc, I.cell, I.free, I.freeC, fun p hp => I.pin p (List.mem_append_left _ hp), I.hok, I.len⟩
/-- a local name is gone: nothing is known of the names any more -/
theorem Inv.goes {h' : Heap} {m' : Str → Option Value} {t' : Nat} (I : Inv X pins σ H s) (hn' : h'.Ns X.env.locals m') (hs : Heap.SameBut X.env.locals s.heap h') : Inv X pins (List.replicate σ.length none) H { s with heap := h', toks := t' } := by
  have neL : ∀ b ob, X.s_0.heap.get? b = some ob → b ≠ X.env.locals := fun b ob e => Nat.ne_of_lt (Nat.lt_of_lt_of_le (Heap.lt_size e) I.ok.above)
  refine ⟨I.ok, I.os, I.bare, ⟨fun b ob e n hb hx => ?_, fun b ob e n hb hx => ?_, I.base.free, fun b ob e hx => ?_, I.base.tups, I.base.frzs, I.base.tbls⟩, ⟨m', hn', fun i x v e1 e2 e3 => ?_⟩, fun y c e => ?_, I.free, I.freeC, fun p hp => ?_, fun b u e => ?_, ?_⟩
  · exact (hs.2 b (neL b ob e)).trans (I.base.keep b ob e n hb hx)
  · obtain ⟨sl, e1⟩ := I.base.slot b ob e n hb hx
    exact ⟨sl, (hs.2 b (neL b ob e)).trans e1⟩
  · obtain ⟨o', e1⟩ := I.base.there b ob e hx
    exact ⟨o', (hs.2 b (neL b ob e)).trans e1⟩
  · rw [List.getElem?_replicate] at e2
    split at e2 <;> cases e2
  · obtain ⟨w', z⟩ := I.cell y c e
    exact ⟨w', z.sameBut hs (I.cne y c e)⟩
  · obtain ⟨e, n, ne, nf, d⟩ := I.pin p hp
    exact ⟨(hs.2 p.1 ne).trans e, n, ne, nf, d⟩
  · refine (I.hok b u e).stay (fun c v hc q => (hs.2 c ?_).trans q) (fun _ q => q) fun _ _ q => q
    rintro rfl
    have hf := I.free
    rcases hc with hc | hc
    · rw [← hc, hf] at e
      cases e
    · rw [hf] at hc
      cases hc
  · rw [List.length_replicate]
    exact I.len
end
/-- what the body wants of an exception: it is one of the class at B or under it, and the suite gives back what is wanted -/
def wTry (K : PySem.W.Frag) (B : Addr) (i n : Nat) (th : TS) (D : Ends) : XK := fun cls od H' => ∃ C dx, cls = .ref C ∧ od = some dx ∧ PySem.W.mroIn K C (.ref B) = some true ∧
  ∀ (x : Addr) (σ' : St), H' x = none → σ'.length = n → th { nx := fun _ _ => False, rt := D.rt } (σ'.set i (some (.ref x))) (upd H' x (xh x C dx))
def tTryAs (K : PySem.W.Frag) (B : Addr) (i : Nat) (tb : XK → TS) (th : TS) : TS := fun D σ H => tb (wTry K B i σ.length th D) D σ H
theorem ps_tryAs {X : Cx} {B : Addr} {R n : Str} {i : Nat} {body : List Stmt} {b0 : Stmt} {suite : List Stmt} {tb : XK → TS} {th : TS} {np hpos pos : Pos}
    (hst : X.stack = X.env :: X.outer) (hfr : X.env.frame = some X.env.locals) (hB : xclsIn X.K B = true) (hg : Gl X R) (hm : X.mg R = some (.ref B)) (hN : X.N.Nodup) (hi : X.N[i]? = some n) (hn : X.env.kindOf n = some .local)
    (hb : ∀ (pn : List (Addr × Obj)) (xe : Value → Shared → Prop) (E : XK), Passes (CXR X.prog X.w) (X.tried pn xe) E → PSs (X.tried pn xe) body (tb E))
    (hs : ∀ (pn : List (Addr × Obj)) (x : Addr), PSs (X.caught pn x) (b0 :: suite) th) (hd : (R == ("__debug__" : Str)) = false := by decide) :
    PS X (.Try body [.ExceptHandler (some (.Name R np)) (some n) (b0 :: suite) hpos] [] [] pos) (tTryAs X.K B i tb th) := by
  intro pins s σ H D I h
  have W : Passes (CXR X.prog X.w) (X.tried (X.pn ++ pins) fun e s1 => wpAny (model X.prog X.w) X.A (noteFrame e X.env) (fun _ s2 => wpAny (model X.prog X.w) X.A (setFlight e none) (fun _ s3 =>
      wpAny (model X.prog X.w) X.A (handleBy e X.env [.ExceptHandler (some (.Name R np)) (some n) (b0 :: suite) hpos]) (SP X pins D) X.xe s3) X.xe s2) X.xe s1) (wTry X.K B i σ.length th D) := by
    intro pins2 σ2 H1 s1 e s' J hx
    obtain ⟨x, T, dx, cls, H', rfl, os, bare, un, hok, xa, x0, t0, hx', ht, hE⟩ := hx
    obtain ⟨C, dx', rfl, edx, hsub, hth⟩ := hE
    cases edx
    have un : Un (frs X.stack) [] H1 H' s1.heap s'.heap := un
    have J1 := J.call' (ch := []) os un hok bare fun b hb => nomatch hb
    have fr0 : X.A.frames = some (X.env :: X.outer) := by rw [← hst]; exact I.ok.frames
    have ff : s'.heap.FunFrames X.base (X.env :: X.outer) := by rw [← hst]; exact J1.stack
    refine note_x (base := X.base) (outer := X.outer) fr0 ff hfr xa fun h2 T2 xa2 tn2 st2 => ?_
    have fs2 : List.filterMap (·.frame) (X.env :: X.outer) = frs X.stack := by rw [hst]; rfl
    rw [fs2] at st2
    have T0 : s1.heap.get? T2 = none := by
      cases q : s1.heap.get? T2 with
      | none => rfl
      | some ob =>
        obtain ⟨o', e'⟩ := un.there T2 ob q (by simp)
        rw [tn2] at e'
        cases e'
    have HT2 : H' T2 = none := hok.none_of tn2
    have un2 : Un (frs X.stack) [] H1 H' s1.heap h2 := un_stay un st2 (fun b hb => hb) (fun b hb => .inl hb) x0 (fun T' q => by cases q; exact t0)
    have hok2 : HOk X.prog X.w H' h2 := hok_stay hok st2 (fun b hb => J1.stkFree b hb) hx' (fun T' q => by cases q; exact ht)
    have J2 : Inv (X.tried (X.pn ++ pins) _) pins2 σ2 H' { s' with heap := h2 } := J.call' (ch := []) (s' := { s' with heap := h2 }) os un2 hok2 bare fun b hb => nomatch hb
    have JC := J2.caught I.ok x
    refine wpAny_handleBy_cons (codeAny_handlers_test ?_) (by intro q; cases q)
    refine ld_glob (X := X.caught (X.pn ++ pins) x) JC hg hm ?_ hd
    obtain ⟨vs, sl, xg, _⟩ := id xa2
    obtain ⟨hp', g', d', tk', os'⟩ := s'
    refine xmatch (xcls_of JC.kIn hB) (PySem.W.looks_mroIn JC.kIn hsub) xg rfl ?_
    refine codeAny_handlers_suite_as (flight_x (s := ⟨h2, g', d', tk', os'⟩) xa2 fun h3 xa3 st3 => ?_)
    have st3' : Stay (frs X.stack) x (some T2) h2 h3 := by
      refine ⟨fun b ob e _ q1 q2 => st3.keep b ob e (by simp) q1 q2, fun b ob e hbf => ?_⟩
      refine ⟨ob.slots, st3.keep b ob e (by simp) (fun z => ?_) (fun z => ?_)⟩
      · obtain ⟨_, o2, ho2, hnf⟩ := (J2.stack).mem hbf
        rw [z, xg] at ho2
        cases ho2
        exact hnf _ rfl
      · cases z
        obtain ⟨_, _, _, _, _, oT, ts, hT, dT, _⟩ := xa2
        obtain ⟨_, o2, ho2, hnf⟩ := (J2.stack).mem hbf
        rw [hT] at ho2
        cases ho2
        exact hnf _ dT
    have un3 : Un (frs X.stack) [] H1 H' s1.heap h3 := un_stay un2 st3' (fun b hb => hb) (fun b hb => .inl hb) x0 (fun T' q => by cases q; exact T0)
    have hok3 : HOk X.prog X.w H' h3 := hok_stay hok2 st3' (fun b hb => J1.stkFree b hb) hx' (fun T' q => by cases q; exact HT2)
    obtain ⟨vs3, sl3, xg3, _⟩ := id xa3
    have un4 : Un (frs X.stack) [] H1 (upd H' x (xh x C dx)) s1.heap h3 := un_track un3 x0 hx'
    have hok4 : HOk X.prog X.w (upd H' x (xh x C dx)) h3 := hok_track hok3 hx' (xh_ok ⟨vs3, sl3, xg3⟩)
    have J4 : Inv (X.tried (X.pn ++ pins) _) pins2 σ2 (upd H' x (xh x C dx)) ⟨h3, g', d', tk', os'⟩ := J.call' (ch := []) (s' := ⟨h3, g', d', tk', os'⟩) os un4 hok4 bare fun b hb => nomatch hb
    have JC4 := J4.caught I.ok x
    refine store_ok (X := X.caught (X.pn ++ pins) x) (v := V.ref x) JC4 hN hi (.inl hn) rfl (fun s5 J5 => ?_) (.inr hn)
    have hth' := hth x σ2 hx' (by rw [J4.len]; exact I.len.symm)
    refine wpAny_mono (hs (X.pn ++ pins) x pins2 s5 _ _ _ J5 hth') (fun fl s6 hfl => ?_) fun _ _ z => z.elim
    cases fl with
    | next =>
      obtain ⟨_, _, _, z⟩ := hfl
      exact z.elim
    | brk =>
      obtain ⟨_, _, _, z⟩ := hfl
      exact z.elim
    | cont =>
      obtain ⟨_, _, _, z⟩ := hfl
      exact z.elim
    | ret u =>
      obtain ⟨v, σ6, H6, J6, r6, q6⟩ := hfl
      obtain ⟨m6, n6, _⟩ := id J6.loc
      have hcls : (X.env.scope.kind == .class || (X.env.scope.kind == .module && X.env.locals != X.env.globals)) = false := by rw [I.ok.kind]; rfl
      refine wpAny_nameGoes hn n6 hcls fun h' m' n' sb => ?_
      exact ⟨v, _, H6, (J6.uncaught I.ok).goes n' sb, r6, q6⟩
  have run := hb _ _ _ W [] s σ H D (I.tried _) h
  refine wpAny_Try_except (wpAny_mono run (fun fl s1 hfl => ?_) fun e s1 z => z)
  cases fl with
  | next =>
    obtain ⟨σ', H', J, q⟩ := hfl
    exact wpAny_execs_nil ⟨σ', H', J.untried I.ok, q⟩
  | brk =>
    obtain ⟨σ', H', J, q⟩ := hfl
    exact ⟨σ', H', J.untried I.ok, q⟩
  | cont =>
    obtain ⟨σ', H', J, q⟩ := hfl
    exact ⟨σ', H', J.untried I.ok, q⟩
  | ret u =>
    obtain ⟨v, σ', H', J, r, q⟩ := hfl
    exact ⟨v, σ', H', J.untried I.ok, r, q⟩
end L2
end
section
set_option linter.all false
set_option Elab.async false
set_option maxRecDepth 100000
set_option maxHeartbeats 2000000
namespace LT
open PySem PySem.Spec PyProof.Rows L2 LX
def top (i : Nat) : Stmt := PySem.Challenge.pw_livetable_s01_answers.main.body.getD i (.Pass ⟨0, 0, 0, 0⟩)
abbrev sGcd : Stmt := top 18
abbrev sWithin : Stmt := top 5
abbrev sDemand : Stmt := top 6
/-- a module's int -/
theorem pe_cst {X : Cx} {x : Str} {n : Int} {pos : Pos} (hg : Gl X x) (hm : ∃ t, X.mg x = some (.int n t)) (hd : (x == ("__debug__" : Str)) = false := by decide) : PE X (.Name x pos) (tC (.int n)) := by
  obtain ⟨t, e⟩ := hm
  exact pe_glob hg e ⟨t, rfl⟩ hd
section
variable {P : Program} {w : World} {K : PySem.W.Frag} {mg : Str → Option Value} {base : Heap}
/-! ### common_divisor -/
def spGcd : Sp := fun vs H Q _ => ∃ a b : Nat, vs = [.int a, .int b] ∧ Q (.int (Nat.gcd a b : Nat)) H
theorem scGcd : FnScope ["first", "second", "rest"] ["first", "second"] (defScope sGcd) := ⟨rfl, rfl, rfl, by decide +kernel, rfl, by decide +kernel, by decide +kernel⟩
theorem ok_gcd {f : Addr} {fd : FuncData} (F : Fun K "common_divisor" "common_divisor" sGcd f fd) : FnOk P w K mg base CX0 1 f fd ["first", "second"] spGcd := by
  refine F.ok scGcd (fun vs H Q E h => ?_) (fun cdv A outer s H vs Q E hr h => ?_)
  · obtain ⟨a, b, rfl, _⟩ := h
    rfl
  · obtain ⟨a, b, rfl, k⟩ := h
    refine ⟨_, pss_cons (ps_while PassesOwn.never (pt_cmpR op_ne (pv 1) pe_int (nomark _)) (pss_cons (ps_set (i := 2) scGcd.nd rfl (Or.inl rfl) (pe_op op_mod (pv 0) (pv 1))) (pss_cons (ps_set (i := 0) scGcd.nd rfl (Or.inl rfl) (pv 1)) (pss_one (ps_set (i := 1) scGcd.nd rfl (Or.inl rfl) (pv 2)))))) (pss_one (ps_ret (pv 0))), ?_⟩
    refine while_by (fun σ H' => ∃ (x y : Nat) (r : Option V), σ = [some (.int x), some (.int y), r] ∧ H' = H ∧ Nat.gcd x y = Nat.gcd a b) (fun σ _ => match σ with | [_, some (.int y), _] => y.toNat | _ => 0) ⟨a, b, none, rfl, rfl, rfl⟩ ?_ ?_
    · rintro σ H' ⟨x, y, r, rfl, rfl, e⟩
      refine ⟨_, rfl, rfl, _, rfl, ?_⟩
      by_cases hy : y = 0
      · subst hy
        refine iteNS rfl ?_
        refine ⟨_, rfl, ?_⟩
        rw [Nat.gcd_zero_right] at e
        rw [← e] at k
        exact k
      · have hd : (decide (V.int (y : Int) = V.int 0)) = false := decide_eq_false (fun q => by injection q with q; omega)
        rw [hd]
        refine iteT ⟨_, rfl, _, rfl, _, _, rfl, rfl, (by show (0 : Int) < (y : Int); omega), _, rfl, _, rfl, ?_⟩
        refine ⟨⟨y, x % y, some (.int ((x : Int) % (y : Int))), ?_, rfl, ?_⟩, ?_⟩
        · rfl
        · rw [Nat.gcd_comm, ← e, Nat.gcd_comm x y, Nat.gcd_rec y x, Nat.gcd_comm]
        · show ((x : Int) % (y : Int)).toNat < (y : Int).toNat
          have : x % y < y := Nat.mod_lt _ (by omega)
          omega
    · intro σ H' Q Q' hQ h
      obtain ⟨v, e, s, k, ek, q⟩ := h
      exact ⟨v, e, s, k, ek, hQ _ _ q⟩
end
end LT
end
section
set_option linter.all false
set_option Elab.async false
set_option maxRecDepth 100000
set_option maxHeartbeats 2000000
namespace LT
open PySem PySem.Spec PyProof.Rows L2 LX
abbrev sRef : Stmt := inClass (top 1) 0
abbrev sTooLong : Stmt := inClass (top 2) 0
abbrev sOut : Stmt := inClass (top 3) 0
abbrev sWrong : Stmt := inClass (top 4) 0
section
variable {P : Program} {w : World} {K : PySem.W.Frag} {mg : Str → Option Value} {base : Heap}
/-! ### within -/
def spWithin : Sp := fun vs H Q _ => ∃ n lo hi : Int, vs = [.int n, .int lo, .int hi] ∧ Q (.bl (decide (lo ≤ n ∧ n ≤ hi))) H
theorem scWithin : FnScope ["number", "least", "greatest"] ["number", "least", "greatest"] (defScope sWithin) := ⟨rfl, rfl, rfl, by decide +kernel, rfl, by decide +kernel, by decide +kernel⟩
theorem ok_within {f : Addr} {fd : FuncData} (F : Fun K "within" "within" sWithin f fd) : FnOk P w K mg base CX0 1 f fd ["number", "least", "greatest"] spWithin := by
  refine F.ok scWithin (fun vs H Q E h => ?_) (fun cdv A outer s H vs Q E hr h => ?_)
  · obtain ⟨n, lo, hi, rfl, _⟩ := h
    rfl
  · obtain ⟨n, lo, hi, rfl, k⟩ := h
    refine ⟨_, pss_one (ps_ret (pe_and (pe_cmpR op_le (pv 1) (pv 0) (nomark _)) (pe_one (pe_cmpR op_le (pv 0) (pv 2) (nomark _))))), ?_⟩
    refine ⟨_, rfl, _, rfl, _, _, rfl, rfl, _, rfl, ?_⟩
    by_cases h1 : lo ≤ n
    · rw [decide_eq_true h1]
      refine iteT ⟨_, rfl, _, rfl, _, _, rfl, rfl, ?_⟩
      have e : decide (lo ≤ n ∧ n ≤ hi) = decide (n ≤ hi) := by simp [h1]
      rw [e] at k
      exact k
    · rw [decide_eq_false h1]
      refine iteF ?_
      have e : decide (lo ≤ n ∧ n ≤ hi) = false := by simp [h1]
      rw [e] at k
      exact k
/-! ### the refusals -/
/-- a refusal that answers n, made over H -/
def RefE (K : PySem.W.Frag) (R : Addr) (H : Hp) (n : Int) (E : XK) : Prop := ∀ (C dx : Addr) (H' : Hp), PySem.W.mroIn K C (.ref R) = some true → XGet K C "answer" → H' dx = some (.xd [("answer", .int n)]) → Same H H' → E (.ref C) (some dx) H'
/-- Refusal.__init__ and those of the classes under it: x is an exception that is being made -/
def spRef : Sp := fun vs H Q _ => ∃ (x C : Addr) (n : Int), vs = [.ref x, .int n] ∧ H x = some (xo x C none) ∧ xclsIn K C = true ∧ XSet K C "answer" ∧
  ∀ dx, H dx = none → dx ≠ x → Q .non (upd (upd H dx (.xd [("answer", .int n)])) x (xo x C (some dx)))
theorem scRef : FnScope ["self", "answer"] ["self", "answer"] (defScope sRef) := ⟨rfl, rfl, rfl, by decide +kernel, rfl, by decide +kernel, by decide +kernel⟩
theorem ok_ref {f : Addr} {fd : FuncData} (F : Fun K "__init__" "Refusal.__init__" sRef f fd) (hE : mg "Exception" = none) : FnOk P w K mg base CX0 1 f fd ["self", "answer"] (spRef (K := K)) := by
  refine F.ok scRef (fun vs H Q E h => ?_) (fun cdv A outer s H vs Q E hr h => ?_)
  · obtain ⟨x, C, n, rfl, _⟩ := h
    rfl
  · obtain ⟨x, C, n, rfl, hx, hc, hs, k⟩ := h
    refine ⟨_, pss_cons (ps_expr (pe_xinit rfl hE (pa_cons (pv 0) (pa_cons (pv 1) pa_nil)))) (pss_one (ps_xset (pv 0) (pv 1) rfl)), ?_⟩
    refine ⟨_, rfl, _, rfl, (by show 2 ≤ sizeLine; decide), x, C, none, [.int n], rfl, hx, hc, ?_⟩
    exact ⟨_, rfl, _, rfl, x, C, rfl, hx, hs, fun dx h1 h2 => k dx h1 h2⟩
/-- the __init__ of a class under Refusal -/
def spSub (ar : List V → Option Int) : Sp := fun vs H Q _ => ∃ (x C : Addr) (n : Int) (rest : List V), vs = .ref x :: rest ∧ ar rest = some n ∧ H x = some (xo x C none) ∧ xclsIn K C = true ∧ XSet K C "answer" ∧
  ∀ dx, H dx = none → dx ≠ x → Q .non (upd (upd H dx (.xd [("answer", .int n)])) x (xo x C (some dx)))
def arTooLong : List V → Option Int
  | [] => some (-1)
  | _ => none
def arOut : List V → Option Int
  | [] => some (-2)
  | _ => none
def arWrong : List V → Option Int
  | [.int l] => some (-100 - l)
  | _ => none
theorem scTooLong : FnScope ["self"] ["self"] (defScope sTooLong) := ⟨rfl, rfl, rfl, by decide +kernel, rfl, by decide +kernel, by decide +kernel⟩
theorem scOut : FnScope ["self"] ["self"] (defScope sOut) := ⟨rfl, rfl, rfl, by decide +kernel, rfl, by decide +kernel, by decide +kernel⟩
theorem scWrong : FnScope ["self", "line"] ["self", "line"] (defScope sWrong) := ⟨rfl, rfl, rfl, by decide +kernel, rfl, by decide +kernel, by decide +kernel⟩
theorem ok_tooLong {f R fR : Addr} {fd fdR : FuncData} (F : Fun K "__init__" "TooLong.__init__" sTooLong f fd) (hE : mg "Exception" = none) (hR : mg "Refusal" = some (.ref R)) (FR : Fun K "__init__" "Refusal.__init__" sRef fR fdR)
    (bR : Binds K fdR ["self", "answer"] []) (cR : CM K R fR "__init__") : FnOk P w K mg base CX0 2 f fd ["self"] (spSub (K := K) arTooLong) := by
  have GR : FnOk P w K mg base CX0 1 fR fdR ["self", "answer"] (spRef (K := K)) := ok_ref FR hE
  refine F.ok scTooLong (fun vs H Q E h => ?_) (fun cdv A outer s H vs Q E hr h => ?_)
  · obtain ⟨x, C, n, rest, rfl, ha, _⟩ := h
    cases rest with
    | nil => rfl
    | cons _ _ => cases ha
  · obtain ⟨x, C, n, rest, rfl, ha, hx, hc, hs, k⟩ := h
    cases rest with
    | cons _ _ => cases ha
    | nil =>
      cases ha
      refine ⟨_, pss_one (ps_expr (pe_cmeth cR GR hr rfl hR bR pass0 (pa_cons (pv 0) (pa_cons (pe_un un_neg pe_int) pa_nil)))), ?_⟩
      exact ⟨_, rfl, _, rfl, x, C, _, rfl, hx, hc, hs, k⟩
theorem ok_out {f R fR : Addr} {fd fdR : FuncData} (F : Fun K "__init__" "OutOfRange.__init__" sOut f fd) (hE : mg "Exception" = none) (hR : mg "Refusal" = some (.ref R)) (FR : Fun K "__init__" "Refusal.__init__" sRef fR fdR)
    (bR : Binds K fdR ["self", "answer"] []) (cR : CM K R fR "__init__") : FnOk P w K mg base CX0 2 f fd ["self"] (spSub (K := K) arOut) := by
  have GR : FnOk P w K mg base CX0 1 fR fdR ["self", "answer"] (spRef (K := K)) := ok_ref FR hE
  refine F.ok scOut (fun vs H Q E h => ?_) (fun cdv A outer s H vs Q E hr h => ?_)
  · obtain ⟨x, C, n, rest, rfl, ha, _⟩ := h
    cases rest with
    | nil => rfl
    | cons _ _ => cases ha
  · obtain ⟨x, C, n, rest, rfl, ha, hx, hc, hs, k⟩ := h
    cases rest with
    | cons _ _ => cases ha
    | nil =>
      cases ha
      refine ⟨_, pss_one (ps_expr (pe_cmeth cR GR hr rfl hR bR pass0 (pa_cons (pv 0) (pa_cons (pe_un un_neg pe_int) pa_nil)))), ?_⟩
      exact ⟨_, rfl, _, rfl, x, C, _, rfl, hx, hc, hs, k⟩
theorem ok_wrong {f R fR : Addr} {fd fdR : FuncData} (F : Fun K "__init__" "WrongLine.__init__" sWrong f fd) (hE : mg "Exception" = none) (hR : mg "Refusal" = some (.ref R)) (FR : Fun K "__init__" "Refusal.__init__" sRef fR fdR)
    (bR : Binds K fdR ["self", "answer"] []) (cR : CM K R fR "__init__") : FnOk P w K mg base CX0 2 f fd ["self", "line"] (spSub (K := K) arWrong) := by
  have GR : FnOk P w K mg base CX0 1 fR fdR ["self", "answer"] (spRef (K := K)) := ok_ref FR hE
  have one : ∀ {rest : List V} {n : Int}, arWrong rest = some n → ∃ l, rest = [.int l] ∧ n = -100 - l := fun {rest n} ha => by
    unfold arWrong at ha
    split at ha
    · cases ha
      exact ⟨_, rfl, rfl⟩
    · cases ha
  refine F.ok scWrong (fun vs H Q E h => ?_) (fun cdv A outer s H vs Q E hr h => ?_)
  · obtain ⟨x, C, n, rest, rfl, ha, _⟩ := h
    obtain ⟨l, rfl, _⟩ := one ha
    rfl
  · obtain ⟨x, C, n, rest, rfl, ha, hx, hc, hs, k⟩ := h
    obtain ⟨l, rfl, rfl⟩ := one ha
    refine ⟨_, pss_one (ps_expr (pe_cmeth cR GR hr rfl hR bR pass0 (pa_cons (pv 0) (pa_cons (pe_op op_sub (pe_un un_neg pe_int) (pv 1)) pa_nil)))), ?_⟩
    exact ⟨_, rfl, _, rfl, _, rfl, _, _, rfl, rfl, x, C, _, rfl, hx, hc, hs, k⟩
end
end LT
end
section
set_option linter.all false
set_option Elab.async false
set_option maxRecDepth 100000
set_option maxHeartbeats 2000000
namespace LT
open PySem PySem.Spec PyProof.Rows L2 LX
section
variable {P : Program} {w : World} {K : PySem.W.Frag} {mg : Str → Option Value} {base : Heap}
/-- what stands of a refusal's class in K -/
structure RC (K : PySem.W.Frag) (mg : Str → Option Value) (R C f : Addr) (x : Str) : Prop where
  xc : XC K C f
  st : XSet K C "answer"
  gt : XGet K C "answer"
  sub : PySem.W.mroIn K C (.ref R) = some true
  nm : mg x = some (.ref C)
/-- behind a refusal's making: the wish about it -/
theorem made_ref {R C : Addr} {H : Hp} {n : Int} {E : XK} {x dx : Addr} (hE : RefE K R H n E) (sub : PySem.W.mroIn K C (.ref R) = some true) (gt : XGet K C "answer") (nx : H x = none) (h1 : (upd H x (xo x C none)) dx = none) (h2 : dx ≠ x) :
    E (.ref C) (some dx) (L2.del (upd (upd (upd H x (xo x C none)) dx (.xd [("answer", .int n)])) x (xo x C (some dx))) x) := by
  rw [upd_ne h2] at h1
  refine hE C dx _ sub gt ?_ fun b o e => ?_
  · rw [del_ne h2, upd_ne h2, upd_same]
  · have nb : b ≠ x := ne_of_none e nx
    have nd : b ≠ dx := ne_of_none e h1
    rw [del_ne nb, upd_ne nb, upd_ne nd, upd_ne nb]
    exact e
/-! ### demand_within -/
def spDemand (K : PySem.W.Frag) (R : Addr) : Sp := fun vs H Q E => ∃ n lo hi : Int, vs = [.int n, .int lo, .int hi] ∧ ((lo ≤ n ∧ n ≤ hi) → Q .non H) ∧ (¬ (lo ≤ n ∧ n ≤ hi) → RefE K R H (-2) E)
theorem scDemand : FnScope ["number", "least", "greatest"] ["number", "least", "greatest"] (defScope sDemand) := ⟨rfl, rfl, rfl, by decide +kernel, rfl, by decide +kernel, by decide +kernel⟩
theorem ok_demand {f fW fO R C : Addr} {fd fdW fdO : FuncData} (F : Fun K "demand_within" "demand_within" sDemand f fd) (FW : Fun K "within" "within" sWithin fW fdW) (mW : mg "within" = some (.ref fW)) (bW : Binds K fdW ["number", "least", "greatest"] [])
    (O : RC K mg R C fO "OutOfRange") (GO : FnOk P w K mg base CX0 2 fO fdO ["self"] (spSub (K := K) arOut)) (bO : Binds K fdO ["self"] []) : FnOk P w K mg base (CXR P w) 4 f fd ["number", "least", "greatest"] (spDemand K R) := by
  have GW : FnOk P w K mg base CX0 1 fW fdW ["number", "least", "greatest"] spWithin := ok_within FW
  refine F.okX scDemand (fun vs H Q E h => ?_) (fun cdv A outer s H vs Q E hr h => ?_)
  · obtain ⟨n, lo, hi, rfl, _⟩ := h
    rfl
  · obtain ⟨n, lo, hi, rfl, k1, k2⟩ := h
    have hr1 : Room 1 _ := hr.mono (by decide)
    refine ⟨_, pss_one (ps_if (pt_not (pt_val (pe_call GW hr1 rfl mW FW.kp bW .nil pass0 (pa_cons (pv 0) (pa_cons (pv 1) (pa_cons (pv 2) pa_nil)))))) (pss_one (ps_raise (pe_xmake0 O.xc GO hr rfl O.nm bO pass0))) pss_nil), ?_⟩
    refine ⟨_, rfl, _, rfl, _, rfl, n, lo, hi, rfl, _, rfl, ?_⟩
    by_cases hc : lo ≤ n ∧ n ≤ hi
    · rw [decide_eq_true hc]
      exact iteF (k1 hc)
    · rw [decide_eq_false hc]
      refine iteT ?_
      refine ⟨Nat.zero_le _, fun x nx => ⟨x, C, -2, [], rfl, rfl, upd_same, O.xc.cls, O.st, fun dx h1 h2 => ⟨rfl, x, C, dx, rfl, upd_same, O.xc.cls, nx, ?_⟩⟩⟩
      exact made_ref (k2 hc) O.sub O.gt nx h1 h2
/-! ### Ratio -/
abbrev sRatio : Stmt := inClass (top 19) 0
abbrev sText : Stmt := inClass (top 19) 1
def rf (n : Int) (d : Int) : List (Str × V) := putF "bottom" (.int d) (putF "top" (.int n) [])
/-- a Ratio at a that is the fraction q -/
def RatioAt (C : Addr) (H : Hp) (a : Addr) (q : Sd49.Fr) : Prop := ∃ dx, H a = some (.ins C dx (rf q.num q.den))
structure TxRatio (K : PySem.W.Frag) (C : Addr) : Prop where
  cl : Cls K C
  nT : NoAttr K C "top"
  nB : NoAttr K C "bottom"
/-- how great a number may be here -/
def Fits (i : Int) : Prop := i.natAbs.log2 < 13500
theorem fits_of {i : Int} {k : Nat} (h : i.natAbs < 2 ^ k) (hk : k ≤ 13500) : Fits i := by
  unfold Fits
  by_cases e : i.natAbs = 0
  · rw [e]
    decide
  · exact Nat.lt_of_lt_of_le ((Nat.log2_lt e).mpr h) hk
theorem Fits.noPylong {i : Int} (h : Fits i) (j : Int) : Builtin.divisionGoesByPylong i j = false := by
  unfold Fits at h
  have hx : (if i = 0 then 0 else i.natAbs.log2 / 30 + 1) ≤ 450 := by
    split <;> omega
  unfold Builtin.divisionGoesByPylong
  simp
  intro hy
  revert hx hy
  generalize (if i = 0 then 0 else i.natAbs.log2 / 30 + 1) = x
  generalize (if j = 0 then 0 else j.natAbs.log2 / 30 + 1) = y
  intro hx hy
  omega
/-- // by a number above 0, of a number that is not too great -/
theorem op_fdivF {X : Cx} : OpR X (binaryOp .FloorDiv) (rI (fun i j => 0 < j ∧ Fits i) fun i j => .int (i / j)) := opI fun i j _ _ _ _ _ hc q => by
  have e : i.fdiv j = i / j := Int.fdiv_eq_ediv_of_nonneg _ (by have := hc.1; omega)
  rw [← e] at q
  exact floordiv_int (by have := hc.1; omega) q (.inl (hc.2.noPylong j))
theorem boot_strT : bootBuiltins "str" = some (.type "str") := by decide +kernel
theorem boot_abs : bootBuiltins "abs" = some (.builtin "abs") := by decide +kernel
/-- str(n), n of fewer than 4301 digits -/
theorem call_strF {X : Cx} (hc : X.calm = true) (hd : PySem.W.nsIn X.K cStatics "sys.int_max_str_digits" = some none) : CallR X (.type "str") (fun xs H Q => ∃ i, xs = [.int i] ∧ i.natAbs < 10 ^ 4300 ∧ Q (.str (toString i)) H) := by
  intro pins s σ H xs us Q I r h
  obtain ⟨i, rfl, hz, q⟩ := h
  obtain ⟨u, rfl, t, rfl⟩ := vals1 r
  have nd : s.heap.NoDigits := by
    obtain ⟨mc, h1, _⟩ := I.nolimit
    refine ⟨mc, h1, ?_⟩
    obtain ⟨o, es, ep, ho, hdt, _, hf⟩ := h1
    unfold PySem.W.nsIn at hd
    split at hd
    · rename_i c d es' n' sl z
      have z2 := I.kIn _ _ z
      rw [ho] at z2
      cases z2
      cases hdt
      split at hd
      · cases hd
      · rename_i he
        rw [← hf]
        unfold nsFind findBy
        rw [← Array.find?_toList, he]
        rfl
    · cases hd
  exact PyProof.Rows.str_of_int_or (I.ok.hd hc) nd (fun _ => ⟨.str _, H, I.tok _, ⟨_, rfl⟩, q⟩) fun z => absurd hz (Nat.not_lt.mpr z)
/-- Ratio.__init__ -/
def spRatio (C : Addr) : Sp := fun vs H Q _ => ∃ (p dx : Addr) (n : Int) (d : Nat), vs = [.ref p, .int n, .int d] ∧ H p = some (.ins C dx []) ∧ 0 < d ∧ Fits n ∧ Fits d ∧
  ∀ H' : Hp, RatioAt C H' p (Sd49.fr n d) → (∀ b o, H b = some o → b ≠ p → H' b = some o) → Q .non H'
theorem scRatio : FnScope ["self", "top", "bottom", "shared"] ["self", "top", "bottom"] (defScope sRatio) := ⟨rfl, rfl, rfl, by decide +kernel, rfl, by decide +kernel, by decide +kernel⟩
theorem ok_ratio {f fG C : Addr} {fd fdG : FuncData} (F : Fun K "__init__" "Ratio.__init__" sRatio f fd) (FG : Fun K "common_divisor" "common_divisor" sGcd fG fdG) (mG : mg "common_divisor" = some (.ref fG)) (bG : Binds K fdG ["first", "second"] [])
    (mA : mg "abs" = none) (T : TxRatio K C) : FnOk P w K mg base CX0 2 f fd ["self", "top", "bottom"] (spRatio C) := by
  have GG : FnOk P w K mg base CX0 1 fG fdG ["first", "second"] spGcd := ok_gcd FG
  refine F.ok scRatio (fun vs H Q E h => ?_) (fun cdv A outer s H vs Q E hr h => ?_)
  · obtain ⟨p, dx, n, d, rfl, _⟩ := h
    rfl
  · obtain ⟨p, dx, n, d, rfl, hp, hd, f1, f2, k⟩ := h
    refine ⟨_, pss_cons (ps_set (i := 3) scRatio.nd rfl (Or.inl rfl) (pe_call GG hr rfl mG FG.kp bG .nil pass0 (pa_cons (pe_callB call_abs rfl mA boot_abs (pa_cons (pv 1) pa_nil)) (pa_cons (pv 2) pa_nil))))
      (pss_cons (ps_fld (pv 0) (pe_op op_fdivF (pv 1) (pv 3)) rfl) (pss_one (ps_fld (pv 0) (pe_op op_fdivF (pv 2) (pv 3)) rfl))), ?_⟩
    have eA : (if n < 0 then -n else n) = ((n.natAbs : Nat) : Int) := by split <;> omega
    have hg : 0 < Nat.gcd n.natAbs d := Nat.gcd_pos_of_pos_right _ hd
    refine ⟨_, rfl, n, rfl, _, rfl, n.natAbs, d, ?_, ?_⟩
    · rw [eA]
      rfl
    refine ⟨_, rfl, _, rfl, _, _, rfl, rfl, ⟨by show (0 : Int) < _; omega, f1⟩, _, rfl, p, C, dx, _, rfl, hp, T.cl, T.nT, (by show 0 < 1000; decide), ?_⟩
    refine ⟨_, rfl, _, rfl, _, _, rfl, rfl, ⟨by show (0 : Int) < _; omega, f2⟩, _, rfl, p, C, dx, _, rfl, upd_same, T.cl, T.nB, (by show 1 < 1000; decide), ?_⟩
    refine k _ ⟨dx, ?_⟩ fun b o e hb => by rw [upd_ne hb, upd_ne hb]; exact e
    rw [upd_same]
    unfold Sd49.fr
    rw [if_neg (by omega)]
    show some (HO.ins C dx (putF "bottom" (V.int ((d : Int) / ((Nat.gcd n.natAbs d : Nat) : Int))) (putF "top" (V.int (n / ((Nat.gcd n.natAbs d : Nat) : Int))) []))) = some (HO.ins C dx (rf (n / ((Nat.gcd n.natAbs d : Nat) : Int)) ((d / Nat.gcd n.natAbs d : Nat) : Int)))
    unfold rf
    rw [Int.natCast_ediv]
/-- Ratio.text -/
def spText (C : Addr) : Sp := fun vs H Q _ => ∃ (p : Addr) (q : Sd49.Fr), vs = [.ref p] ∧ RatioAt C H p q ∧ q.num.natAbs < 10 ^ 4300 ∧ q.den < 10 ^ 4300 ∧ ∀ z : Str, TL.tl z = Sd49.told q → z.length ≤ 8700 → Q (.str z) H
theorem scText : FnScope ["self"] ["self"] (defScope sText) := ⟨rfl, rfl, rfl, by decide +kernel, rfl, by decide +kernel, by decide +kernel⟩
theorem tl_int (i : Int) : TL.tl (Str.ofString (toString i)) = (if i < 0 then [45] else []) ++ Sd49.decimal i.natAbs := by
  rw [TL.tl_ofString]
  exact signs_int i
theorem len_int {i : Int} (h : i.natAbs < 10 ^ 4300) : (Str.ofString (toString i)).length ≤ 4301 := by
  rw [TL.len_tl, tl_int, List.length_append]
  have h1 : (Sd49.decimal i.natAbs).length ≤ 4300 := TL.numL_len (n := i.natAbs) (by decide) h
  have h2 : (if i < 0 then [45] else ([] : List Nat)).length ≤ 1 := by split <;> simp
  omega
theorem ok_text {f C : Addr} {fd : FuncData} (F : Fun K "text" "Ratio.text" sText f fd) (mS : mg "str" = none) (hd : PySem.W.nsIn K cStatics "sys.int_max_str_digits" = some none) (T : TxRatio K C) : FnOk P w K mg base CX0 1 f fd ["self"] (spText C) := by
  refine F.ok scText (fun vs H Q E h => ?_) (fun cdv A outer s H vs Q E hr h => ?_)
  · obtain ⟨p, q, rfl, _⟩ := h
    rfl
  · obtain ⟨p, q, rfl, ⟨dx, hp⟩, h1, h2, k⟩ := h
    refine ⟨_, pss_one (ps_ret (pe_op op_add_str (pe_op op_add_str (pe_callTy (call_strF rfl hd) rfl mS boot_strT (pa_cons (pe_fld (pv 0) rfl) pa_nil)) pe_str) (pe_callTy (call_strF rfl hd) rfl mS boot_strT (pa_cons (pe_fld (pv 0) rfl) pa_nil)))), ?_⟩
    have l1 : (rf q.num q.den).lookup ("top" : Str) = some (.int q.num) := by
      unfold rf
      rw [lookup_putF, if_neg (by decide), lookup_putF, if_pos rfl]
    have l2 : (rf q.num q.den).lookup ("bottom" : Str) = some (.int q.den) := by
      unfold rf
      rw [lookup_putF, if_pos rfl]
    have n1 := len_int h1
    have n2 := len_int (i := (q.den : Int)) (by rw [Int.natAbs_natCast]; exact h2)
    have ns : (Str.ofString (toString q.num) ++ ("/" : Str)).length = (Str.ofString (toString q.num)).length + 1 := by
      rw [TL.len_tl, TL.tl_append, List.length_append, ← TL.len_tl]
      rfl
    refine ⟨_, rfl, p, C, dx, _, _, rfl, hp, T.cl, T.nT, l1, _, rfl, h1, _, _, rfl, rfl, ?_, _, rfl, p, C, dx, _, _, rfl, hp, T.cl, T.nB, l2, _, rfl, ?_, _, _, rfl, rfl, ?_, ?_⟩
    · show (Str.ofString (toString q.num)).length + 1 ≤ sizeLine
      rw [sizeLine_eq]
      omega
    · rw [Int.natAbs_natCast]
      exact h2
    · show (Str.ofString (toString q.num) ++ ("/" : Str)).length + (Str.ofString (toString (q.den : Int))).length ≤ sizeLine
      rw [sizeLine_eq, ns]
      omega
    · refine k _ ?_ ?_
      · show TL.tl (Str.ofString (toString q.num) ++ ("/" : Str) ++ Str.ofString (toString (q.den : Int))) = _
        rw [TL.tl_append, TL.tl_append, TL.tl_ofString (toString q.num), TL.tl_ofString (toString (q.den : Int)), told_signs]
        rw [List.append_assoc]
        rfl
      · show (Str.ofString (toString q.num) ++ ("/" : Str) ++ Str.ofString (toString (q.den : Int))).length ≤ 8700
        rw [TL.len_tl, TL.tl_append, List.length_append, ← TL.len_tl, ← TL.len_tl, ns]
        omega
end
end LT
end
section
set_option linter.all false
set_option Elab.async false
set_option maxRecDepth 100000
set_option maxHeartbeats 2000000
namespace LT
open PySem PySem.Spec PyProof.Rows L2 LX
abbrev sNumber : Stmt := top 42
/-- bytes, as the program has them -/
def byt (l : List Nat) : List V := l.map fun n => V.int (n : Nat)
theorem byt_len (l : List Nat) : (byt l).length = l.length := List.length_map ..
theorem byt_at {l : List Nat} {i : Nat} {x : V} (h : (byt l)[i]? = some x) : ∃ n, l[i]? = some n ∧ x = .int (n : Nat) := by
  unfold byt at h
  rw [List.getElem?_map] at h
  cases e : l[i]? with
  | none =>
    rw [e] at h
    cases h
  | some n =>
    rw [e] at h
    exact ⟨n, rfl, (Option.some.inj h).symm⟩
theorem take_snoc {α : Type} : ∀ {l : List α} {i : Nat} {x : α}, l[i]? = some x → l.take (i + 1) = l.take i ++ [x]
  | [], i, x, h => by simp at h
  | a :: l, 0, x, h => by
    have e : a = x := Option.some.inj h
    subst e
    rfl
  | a :: l, i + 1, x, h => by
    have ih := take_snoc (l := l) (i := i) (x := x) h
    show a :: l.take (i + 1) = a :: l.take i ++ [x]
    rw [ih]
    rfl
def ov : Option Nat → V
  | none => .non
  | some v => .int (v : Nat)
/-- the ints at the top of tables.py -/
structure TxTab (mg : Str → Option Value) : Prop where
  ages : ∃ t, mg "MOST_AGES" = some (.int 120 t)
  lives : ∃ t, mg "MOST_LIVES" = some (.int 1000000 t)
  part : ∃ t, mg "GREATEST_PART" = some (.int 1000 t)
  nl : ∃ t, mg "NEWLINE" = some (.int 10 t)
  slash : ∃ t, mg "SLASH" = some (.int 47 t)
  d0 : ∃ t, mg "DIGIT_ZERO" = some (.int 48 t)
  d9 : ∃ t, mg "DIGIT_NINE" = some (.int 57 t)
  len : mg "len" = none
/-- a statement, then others; what holds between them is chosen -/
def tCut (t u : TS) : TS := fun D σ H => ∃ N : L2.St → Hp → Prop, t { D with nx := N } σ H ∧ ∀ σ' H', N σ' H' → u D σ' H'
theorem pss_cut {X : Cx} {st : Stmt} {rest : List Stmt} {t u : TS} (h1 : PS X st t) (h2 : PSs X rest u) : PSs X (st :: rest) (tCut t u) := by
  intro pins s σ H D I h
  obtain ⟨N, k1, k2⟩ := h
  refine wpAny_execs_cons (thn (h1 pins s σ H { D with nx := N } I k1) fun f s1 q => ?_)
  cases f with
  | next =>
    obtain ⟨σ', H', I', q⟩ := q
    exact h2 pins s1 σ' H' D I' (k2 σ' H' q)
  | ret v => exact q
  | brk => exact q
  | cont => exact q
section
variable {P : Program} {w : World} {K : PySem.W.Frag} {mg : Str → Option Value} {base : Heap}
/-! ### number_of -/
def spNumber (K : PySem.W.Frag) : Sp := fun vs H Q _ => ∃ (a : Addr) (ds : List Nat) (lo hi : Nat), vs = [.ref a, .int (lo : Nat), .int (hi : Nat)] ∧ SqL K H a (byt ds) ∧ Q (ov (numIn ds lo hi)) H
theorem scNumber : FnScope ["digits", "least", "greatest", "number", "digit"] ["digits", "least", "greatest"] (defScope sNumber) := ⟨rfl, rfl, rfl, by decide +kernel, rfl, by decide +kernel, by decide +kernel⟩
theorem natOf_snoc (l : List Nat) (c : Nat) : Sd49.natOf (l ++ [c]) = 10 * Sd49.natOf l + (c - 48) := by
  unfold Sd49.natOf
  rw [List.foldl_append]
  rfl
theorem ok_number {f fW : Addr} {fd fdW : FuncData} (F : Fun K "number_of" "number_of" sNumber f fd) (T : TxTab mg) (FW : Fun K "within" "within" sWithin fW fdW) (mW : mg "within" = some (.ref fW)) (bW : Binds K fdW ["number", "least", "greatest"] []) :
    FnOk P w K mg base CX0 2 f fd ["digits", "least", "greatest"] (spNumber K) := by
  have GW : FnOk P w K mg base CX0 1 fW fdW ["number", "least", "greatest"] spWithin := ok_within FW
  refine F.ok scNumber (fun vs H Q E h => ?_) (fun cdv A outer s H vs Q E hr h => ?_)
  · obtain ⟨a, ds, lo, hi, rfl, _⟩ := h
    rfl
  · obtain ⟨a, ds, lo, hi, rfl, hS, k⟩ := h
    refine ⟨_, pss_cut (ps_if (PW.pt (pw_or (pt_cmpR op_eq (pe_callB call_len_seq rfl T.len PySem.boot_len (pa_cons (pv 0) pa_nil)) pe_int (nomark _))
        (pw_or1 (PW.pt (pw_and (pt_cmpR op_gt (pe_callB call_len_seq rfl T.len PySem.boot_len (pa_cons (pv 0) pa_nil)) pe_int (nomark _)) (pw_and1 (pt_cmpR op_eq (pe_ix ix_list (pv 0) pe_int (fun _ _ => rfl)) (pe_cst rfl T.d0) (nomark _))))))))
        (pss_one (ps_ret pe_non)) pss_nil)
      (pss_cons (ps_set (i := 3) scNumber.nd rfl (Or.inl rfl) pe_int)
      (pss_cons (ps_for PassesOwn.never rfl (pi_list (pv 0)) (pg_name (i := 4) scNumber.nd rfl (Or.inl rfl))
        (pss_cons (ps_if (pt_not (pt_val (pe_call GW hr rfl mW FW.kp bW .nil pass0 (pa_cons (pv 4) (pa_cons (pe_cst rfl T.d0) (pa_cons (pe_cst rfl T.d9) pa_nil)))))) (pss_one (ps_ret pe_non)) pss_nil)
        (pss_one (ps_set (i := 3) scNumber.nd rfl (Or.inl rfl) (pe_op op_sub (pe_op op_add (pe_op op_mul (pv 3) pe_int) (pv 4)) (pe_cst rfl T.d0))))))
      (pss_cons (ps_if (pt_not (pt_val (pe_call GW hr rfl mW FW.kp bW .nil pass0 (pa_cons (pv 3) (pa_cons (pv 1) (pa_cons (pv 2) pa_nil)))))) (pss_one (ps_ret pe_non)) pss_nil)
      (pss_one (ps_ret (pv 3)))))), ?_⟩
    have none_k : numIn ds lo hi = none → Q .non H := fun e => by
      rw [e] at k
      exact k
    -- the two tests ahead
    refine ⟨fun σ' H' => σ' = [some (.ref a), some (.int (lo : Nat)), some (.int (hi : Nat)), none, none] ∧ H' = H ∧ ds ≠ [] ∧ ¬ (1 < ds.length ∧ ds.head? = some 48), ?_, ?_⟩
    · refine ⟨_, rfl, a, byt ds, rfl, .inl hS, rfl, _, rfl, ?_⟩
      rw [byt_len]
      cases ds with
      | nil =>
        refine iteT (iteT (none_k ?_))
        unfold numIn
        simp
      | cons d0 r =>
        have e0 : decide (V.int (((d0 :: r).length : Nat) : Int) = V.int 0) = false := decide_eq_false (fun q => by injection q with q; simp at q; omega)
        rw [e0]
        refine iteF ⟨_, rfl, a, byt (d0 :: r), rfl, .inl hS, _, _, rfl, rfl, _, rfl, ?_⟩
        rw [byt_len]
        have at0 : atI (byt (d0 :: r)) 0 = some (.int (d0 : Nat)) := atI_nat (j := 0) rfl
        by_cases h1 : (1 : Int) < (((d0 :: r).length : Nat) : Int)
        · rw [decide_eq_true h1]
          refine iteT ⟨_, rfl, a, byt (d0 :: r), 0, .int (d0 : Nat), rfl, rfl, hS, at0, rfl, _, rfl, ?_⟩
          by_cases h2 : d0 = 48
          · subst h2
            refine iteT (none_k ?_)
            unfold numIn
            rw [if_pos]
            exact .inr (.inl ⟨by omega, rfl⟩)
          · rw [decide_eq_false (fun q => h2 (by injection q with q; omega))]
            exact iteF ⟨rfl, rfl, by simp, fun z => h2 (by simpa using z.2)⟩
        · rw [decide_eq_false h1]
          exact iteF (iteF ⟨rfl, rfl, by simp, fun z => h1 (by omega)⟩)
    · rintro σ' H' ⟨rfl, rfl, hne, hz⟩
      refine ⟨_, rfl, a, rfl, ⟨_, hS⟩, for_list (K := K) (a := a) (xs := byt ds) (fun i σ H2 => ∃ v : Option V, σ = [some (.ref a), some (.int (lo : Nat)), some (.int (hi : Nat)), some (.int ((Sd49.natOf (ds.take i) : Nat) : Int)), v] ∧ H2 = H' ∧ (ds.take i).all Sd49.isDigit = true)
        ⟨none, rfl, rfl, rfl⟩ (fun i σ H2 _ ⟨_, _, e, _⟩ => by rw [e]; exact hS) ?_ ?_⟩
      · rintro i x σ H2 hx ⟨v, rfl, rfl, had⟩
        obtain ⟨c, hc, rfl⟩ := byt_at hx
        refine ⟨_, rfl, (c : Int), 48, 57, rfl, _, rfl, ?_⟩
        by_cases hd : (48 : Int) ≤ (c : Int) ∧ (c : Int) ≤ 57
        · rw [decide_eq_true hd]
          refine iteF ⟨_, rfl, _, _, rfl, rfl, .inr ⟨by decide, by decide⟩, _, rfl, _, _, rfl, rfl, _, _, rfl, rfl, ?_⟩
          refine ⟨some (.int (c : Nat)), ?_, rfl, ?_⟩
          · rw [take_snoc hc, natOf_snoc]
            have e : ((Sd49.natOf (ds.take i) : Nat) : Int) * 10 + (c : Int) - 48 = ((10 * Sd49.natOf (ds.take i) + (c - 48) : Nat) : Int) := by omega
            show [some (V.ref a), some (V.int (lo : Nat)), some (V.int (hi : Nat)), some (V.int (((Sd49.natOf (ds.take i) : Nat) : Int) * 10 + (c : Int) - 48)), some (V.int (c : Nat))] = _
            rw [e]
          · rw [take_snoc hc, List.all_append, had]
            simp [Sd49.isDigit]
            omega
        · rw [decide_eq_false hd]
          refine iteT (none_k ?_)
          unfold numIn
          rw [if_pos]
          refine .inr (.inr (.inl ?_))
          rw [List.all_eq_false]
          refine ⟨c, List.mem_of_getElem? hc, ?_⟩
          unfold Sd49.isDigit
          simp
          omega
      · rintro σ H2 ⟨v, rfl, rfl, had⟩
        rw [byt_len, List.take_length] at had ⊢
        refine ⟨_, rfl, _, rfl, _, rfl, _, _, _, rfl, _, rfl, ?_⟩
        by_cases hr2 : ((lo : Nat) : Int) ≤ ((Sd49.natOf ds : Nat) : Int) ∧ ((Sd49.natOf ds : Nat) : Int) ≤ ((hi : Nat) : Int)
        · rw [decide_eq_true hr2]
          refine iteF ⟨_, rfl, ?_⟩
          have e : numIn ds lo hi = some (Sd49.natOf ds) := by
            unfold numIn
            rw [if_neg]
            simp only [not_or]
            exact ⟨hne, hz, by rw [had]; decide, by omega, by omega⟩
          rw [e] at k
          exact k
        · rw [decide_eq_false hr2]
          refine iteT (none_k ?_)
          unfold numIn
          rw [if_pos]
          by_cases q : Sd49.natOf ds < lo
          · exact .inr (.inr (.inr (.inl q)))
          · exact .inr (.inr (.inr (.inr (by omega))))
end
end LT
end
section
set_option linter.all false
set_option Elab.async false
set_option maxRecDepth 100000
set_option maxHeartbeats 2000000
namespace LT
open PySem PySem.Spec PyProof.Rows L2 LX
abbrev sTabInit : Stmt := inClass (top 37) 0
abbrev sOldest : Stmt := inClass (top 37) 1
abbrev sLiving : Stmt := inClass (top 37) 2
abbrev sLines : Stmt := top 39
/-! ### Table -/
def tf (r l : Addr) : List (Str × V) := putF "lives" (.ref l) (putF "rate" (.ref r) [])
theorem tf_rate (r l : Addr) : (tf r l).lookup ("rate" : Str) = some (.ref r) := by
  unfold tf
  rw [lookup_putF, if_neg (by decide), lookup_putF, if_pos rfl]
theorem tf_lives (r l : Addr) : (tf r l).lookup ("lives" : Str) = some (.ref l) := by
  unfold tf
  rw [lookup_putF, if_pos rfl]
theorem tf_no (r l : Addr) {m : Str} (h1 : ¬ m = "rate") (h3 : ¬ m = "lives") : (tf r l).lookup m = none := by
  unfold tf
  rw [lookup_putF, if_neg h3, lookup_putF, if_neg h1]
  rfl
theorem rf_top (n d : Int) : (rf n d).lookup ("top" : Str) = some (.int n) := by
  unfold rf
  rw [lookup_putF, if_neg (by decide), lookup_putF, if_pos rfl]
theorem rf_bottom (n d : Int) : (rf n d).lookup ("bottom" : Str) = some (.int d) := by
  unfold rf
  rw [lookup_putF, if_pos rfl]
/-- the table T stands at a -/
def TabAt (CR C : Addr) (H : Hp) (a : Addr) (T : Sd49.Table) : Prop := ∃ dx r l dr, H a = some (.ins C dx (tf r l)) ∧ H r = some (.ins CR dr (rf (T.up : Nat) (T.down : Nat))) ∧ H l = some (.lst (byt T.lives))
theorem TabAt.same {CR C : Addr} {H H' : Hp} {a : Addr} {T : Sd49.Table} (h : TabAt CR C H a T) (s : Same H H') : TabAt CR C H' a T := by
  obtain ⟨dx, r, l, dr, h1, h2, h3⟩ := h
  exact ⟨dx, r, l, dr, s _ _ h1, s _ _ h2, s _ _ h3⟩
/-- it stands there, all of it new since H -/
def TabFr (CR C : Addr) (H H' : Hp) (a : Addr) (T : Sd49.Table) : Prop := ∃ dx r l dr, H' a = some (.ins C dx (tf r l)) ∧ H' r = some (.ins CR dr (rf (T.up : Nat) (T.down : Nat))) ∧ H' l = some (.lst (byt T.lives)) ∧ H a = none ∧ H r = none ∧ H l = none
structure TxTable (K : PySem.W.Frag) (C : Addr) : Prop where
  cl : Cls K C
  nR : NoAttr K C "rate"
  nL : NoAttr K C "lives"
section
variable {P : Program} {w : World} {K : PySem.W.Frag} {mg : Str → Option Value} {base : Heap}
def spTabInit (C : Addr) : Sp := fun vs H Q _ => ∃ (p dx r l : Addr), vs = [.ref p, .ref r, .ref l] ∧ H p = some (.ins C dx []) ∧ ∀ H' : Hp, H' p = some (.ins C dx (tf r l)) → (∀ b o, H b = some o → b ≠ p → H' b = some o) → Q .non H'
theorem scTabInit : FnScope ["self", "rate", "lives"] ["self", "rate", "lives"] (defScope sTabInit) := ⟨rfl, rfl, rfl, by decide +kernel, rfl, by decide +kernel, by decide +kernel⟩
theorem ok_tabInit {f C : Addr} {fd : FuncData} (F : Fun K "__init__" "Table.__init__" sTabInit f fd) (T : TxTable K C) : FnOk P w K mg base CX0 1 f fd ["self", "rate", "lives"] (spTabInit C) := by
  refine F.ok scTabInit (fun vs H Q E h => ?_) (fun cdv A outer s H vs Q E hr h => ?_)
  · obtain ⟨p, dx, r, l, rfl, _⟩ := h
    rfl
  · obtain ⟨p, dx, r, l, rfl, hp, k⟩ := h
    refine ⟨_, pss_cons (ps_fld (pv 0) (pv 1) rfl) (pss_one (ps_fld (pv 0) (pv 2) rfl)), ?_⟩
    refine ⟨_, rfl, _, rfl, p, C, dx, _, rfl, hp, T.cl, T.nR, (by show 0 < 1000; decide), ?_⟩
    refine ⟨_, rfl, _, rfl, p, C, dx, _, rfl, upd_same, T.cl, T.nL, (by show 1 < 1000; decide), ?_⟩
    exact k _ upd_same fun b o e hb => by rw [upd_ne hb, upd_ne hb]; exact e
def spOldest (CR C : Addr) : Sp := fun vs H Q _ => ∃ (p : Addr) (T : Sd49.Table), vs = [.ref p] ∧ TabAt CR C H p T ∧ Q (.int ((T.lives.length : Nat) - 1)) H
theorem scOldest : FnScope ["self"] ["self"] (defScope sOldest) := ⟨rfl, rfl, rfl, by decide +kernel, rfl, by decide +kernel, by decide +kernel⟩
theorem ok_oldest {f CR C : Addr} {fd : FuncData} (F : Fun K "oldest" "Table.oldest" sOldest f fd) (T : TxTable K C) (mL : mg "len" = none) : FnOk P w K mg base CX0 1 f fd ["self"] (spOldest CR C) := by
  refine F.ok scOldest (fun vs H Q E h => ?_) (fun cdv A outer s H vs Q E hr h => ?_)
  · obtain ⟨p, T, rfl, _⟩ := h
    rfl
  · obtain ⟨p, TT, rfl, ⟨dx, r, l, dr, hp, hR, hl⟩, k⟩ := h
    refine ⟨_, pss_one (ps_ret (pe_op op_sub (pe_callB call_len_seq rfl mL PySem.boot_len (pa_cons (pe_fld (pv 0) rfl) pa_nil)) pe_int)), ?_⟩
    refine ⟨_, rfl, p, C, dx, _, _, rfl, hp, T.cl, T.nL, tf_lives _ _, l, _, rfl, .inl (SqL.of hl), _, _, rfl, rfl, ?_⟩
    rw [byt_len]
    exact k
def spLiving (CR C : Addr) : Sp := fun vs H Q _ => ∃ (p : Addr) (T : Sd49.Table) (n : Nat), vs = [.ref p, .int (n : Nat)] ∧ TabAt CR C H p T ∧ Q (.int ((Sd49.living T n : Nat) : Int)) H
theorem scLiving : FnScope ["self", "age"] ["self", "age"] (defScope sLiving) := ⟨rfl, rfl, rfl, by decide +kernel, rfl, by decide +kernel, by decide +kernel⟩
theorem ok_living {f fO CR C : Addr} {fd fdO : FuncData} (F : Fun K "living" "Table.living" sLiving f fd) (T : TxTable K C) (GO : FnOk P w K mg base CX0 1 fO fdO ["self"] (spOldest CR C)) (bO : Binds K fdO ["self"] []) (mO : Meth K C "oldest" fO) :
    FnOk P w K mg base CX0 2 f fd ["self", "age"] (spLiving CR C) := by
  refine F.ok scLiving (fun vs H Q E h => ?_) (fun cdv A outer s H vs Q E hr h => ?_)
  · obtain ⟨p, T, n, rfl, _⟩ := h
    rfl
  · obtain ⟨p, TT, n, rfl, hT, k⟩ := h
    obtain ⟨dx, r, l, dr, hp, hR, hl⟩ := id hT
    refine ⟨_, pss_cons (ps_if (pt_cmpR op_gt (pv 1) (pe_meth0 (pv 0) T.cl mO GO hr bO .nil pass0) (nomark _)) (pss_one (ps_ret pe_int)) pss_nil) (pss_one (ps_ret (pe_ix ix_list (pe_fld (pv 0) rfl) (pv 1) (fun _ _ => rfl)))), ?_⟩
    refine ⟨_, rfl, _, rfl, p, dx, _, rfl, hp, tf_no _ _ (by decide +kernel) (by decide +kernel), p, TT, rfl, hT, _, _, rfl, rfl, _, rfl, ?_⟩
    unfold Sd49.living at k
    by_cases hn : ((TT.lives.length : Nat) : Int) - 1 < (n : Int)
    · rw [decide_eq_true hn]
      refine iteT ?_
      rw [List.getD_eq_getElem?_getD, List.getElem?_eq_none (by omega)] at k
      exact k
    · rw [decide_eq_false hn]
      have hlt : n < TT.lives.length := by omega
      refine iteF ⟨_, rfl, p, C, dx, _, _, rfl, hp, T.cl, T.nL, tf_lives _ _, _, rfl, l, byt TT.lives, _, _, rfl, rfl, SqL.of hl, atI_nat (j := n) (v := .int ((TT.lives[n] : Nat) : Int)) ?_, ?_⟩
      · unfold byt
        rw [List.getElem?_map, List.getElem?_eq_getElem hlt]
        rfl
      · rw [List.getD_eq_getElem?_getD, List.getElem?_eq_getElem hlt] at k
        exact k
/-! ### lines_of -/
/-- lines stand at p, each a list of its own -/
structure LinesAt (H : Hp) (p : Addr) (as : List Addr) (ls : List (List Nat)) : Prop where
  lst : H p = some (.lst (as.map V.ref))
  nd : as.Nodup
  len : as.length = ls.length
  at_ : ∀ (j : Nat) (a : Addr) (l : List Nat), as[j]? = some a → ls[j]? = some l → H a = some (.lst (byt l))
theorem LinesAt.ne {H : Hp} {p : Addr} {as : List Addr} {ls : List (List Nat)} (L : LinesAt H p as ls) {a : Addr} (ha : a ∈ as) (np : p ∉ as) : a ≠ p := fun q => np (q ▸ ha)
/-- what the program takes for the lines -/
def linesP (t : List Nat) : List (List Nat) := if 1 < (Sd49.pieces 10 t).length ∧ (Sd49.pieces 10 t).getLast? = some [] then (Sd49.pieces 10 t).dropLast else Sd49.pieces 10 t
def spLines (K : PySem.W.Frag) : Sp := fun vs H Q _ => ∃ (a : Addr) (t : List Nat), vs = [.ref a] ∧ SqL K H a (byt t) ∧ t.length ≤ 4096 ∧
  ∀ (H' : Hp) (p : Addr) (as : List Addr), Same H H' → LinesAt H' p as (linesP t) → Q (.ref p) H'
theorem scLines : FnScope ["text", "lines", "byte"] ["text"] (defScope sLines) := ⟨rfl, rfl, rfl, by decide +kernel, rfl, by decide +kernel, by decide +kernel⟩
theorem LinesAt.more {H : Hp} {p q : Addr} {as : List Addr} {ls : List (List Nat)} (L : LinesAt H p as ls) (np : p ∉ as) (hq : H q = none) :
    LinesAt (upd (upd H q (.lst [])) p (.lst (as.map V.ref ++ [.ref q]))) p (as ++ [q]) (ls ++ [[]]) ∧ p ∉ as ++ [q] := by
  have nq : q ≠ p := fun z => by
    rw [z, L.lst] at hq
    cases hq
  have nas : q ∉ as := fun z => by
    obtain ⟨j, hj, e⟩ := List.getElem_of_mem z
    have hj2 : j < ls.length := by rw [← L.len]; exact hj
    have h2 := L.at_ j q ls[j] (by rw [List.getElem?_eq_getElem hj, e]) (List.getElem?_eq_getElem hj2)
    rw [hq] at h2
    cases h2
  refine ⟨⟨?_, ?_, ?_, fun j a l h1 h2 => ?_⟩, ?_⟩
  · rw [upd_same, List.map_append]
    rfl
  · rw [List.nodup_append]
    exact ⟨L.nd, by simp, fun x hx y hy z => by simp at hy; exact nas (hy ▸ z ▸ hx)⟩
  · rw [List.length_append, List.length_append, L.len]
    rfl
  · by_cases hj : j < as.length
    · rw [List.getElem?_append_left hj] at h1
      rw [List.getElem?_append_left (by rw [← L.len]; exact hj)] at h2
      have ma : a ∈ as := List.mem_of_getElem? h1
      have n1 : a ≠ p := fun z => np (z ▸ ma)
      have n2 : a ≠ q := fun z => nas (z ▸ ma)
      rw [upd_ne n1, upd_ne n2]
      exact L.at_ j a l h1 h2
    · rw [List.getElem?_append_right (by omega)] at h1
      rw [List.getElem?_append_right (by rw [← L.len]; omega)] at h2
      have e0 : j - as.length = 0 := by
        cases q0 : j - as.length with
        | zero => rfl
        | succ n =>
          rw [q0] at h1
          simp at h1
      rw [e0] at h1
      rw [← L.len, e0] at h2
      cases h1
      cases h2
      rw [upd_ne nq, upd_same]
      rfl
  · rw [List.mem_append]
    rintro (z | z)
    · exact np z
    · simp at z
      exact nq z.symm
theorem LinesAt.put {H : Hp} {p q : Addr} {bs : List Addr} {acc : List (List Nat)} {last : List Nat} {c : Nat} (L : LinesAt H p (bs ++ [q]) (acc ++ [last])) (np : p ∉ bs ++ [q]) :
    H q = some (.lst (byt last)) ∧ LinesAt (upd H q (.lst (byt last ++ [.int (c : Nat)]))) p (bs ++ [q]) (acc ++ [last ++ [c]]) := by
  have hl : bs.length = acc.length := by
    have := L.len
    rw [List.length_append, List.length_append] at this
    simpa using this
  have nq : p ≠ q := fun z => np (by rw [z]; simp)
  have hq : H q = some (.lst (byt last)) := L.at_ bs.length q last (by simp) (by rw [hl]; simp)
  refine ⟨hq, ⟨by rw [upd_ne nq]; exact L.lst, L.nd, by simp [hl], fun j a l h1 h2 => ?_⟩⟩
  by_cases hj : j < bs.length
  · rw [List.getElem?_append_left hj] at h1
    rw [List.getElem?_append_left (by rw [← hl]; exact hj)] at h2
    have na : a ≠ q := fun z => by
      have hn := L.nd
      rw [List.nodup_append] at hn
      exact hn.2.2 a (List.mem_of_getElem? h1) q (by simp) z
    rw [upd_ne na]
    exact L.at_ j a l (by rw [List.getElem?_append_left hj]; exact h1) (by rw [List.getElem?_append_left (by rw [← hl]; exact hj)]; exact h2)
  · rw [List.getElem?_append_right (by omega)] at h1
    rw [List.getElem?_append_right (by rw [← hl]; omega)] at h2
    have e0 : j - bs.length = 0 := by
      cases q0 : j - bs.length with
      | zero => rfl
      | succ n =>
        rw [q0] at h1
        simp at h1
    rw [e0] at h1
    rw [← hl, e0] at h2
    cases h1
    cases h2
    rw [upd_same]
    unfold byt
    rw [List.map_append]
    rfl
theorem LinesAt.pop {H : Hp} {p : Addr} {as : List Addr} {ls : List (List Nat)} (L : LinesAt H p as ls) (np : p ∉ as) : LinesAt (upd H p (.lst (as.map V.ref).dropLast)) p as.dropLast ls.dropLast := by
  refine ⟨by rw [upd_same, List.map_dropLast], L.nd.sublist (List.dropLast_sublist _), by rw [List.length_dropLast, List.length_dropLast, L.len], fun j a l h1 h2 => ?_⟩
  have m1 : as[j]? = some a := by
    rw [List.getElem?_dropLast] at h1
    split at h1
    · exact h1
    · cases h1
  have m2 : ls[j]? = some l := by
    rw [List.getElem?_dropLast] at h2
    split at h2
    · exact h2
    · cases h2
  have ma : a ∈ as := List.mem_of_getElem? m1
  have n1 : a ≠ p := fun z => np (z ▸ ma)
  rw [upd_ne n1]
  exact L.at_ j a l m1 m2
theorem pieces_split (t : List Nat) : ∃ acc last, Sd49.pieces 10 t = acc ++ [last] := by
  have h := pieces_ne 10 t
  exact ⟨(Sd49.pieces 10 t).dropLast, (Sd49.pieces 10 t).getLast h, (List.dropLast_concat_getLast h).symm⟩
theorem pieces_small (c : Nat) : ∀ t : List Nat, (Sd49.pieces c t).length ≤ t.length + 1
  | [] => by simp [Sd49.pieces]
  | x :: r => by
    have ih := pieces_small c r
    obtain ⟨p, ps, e⟩ : ∃ p ps, Sd49.pieces c r = p :: ps := by
      cases q : Sd49.pieces c r with
      | nil => exact absurd q (pieces_ne c r)
      | cons p ps => exact ⟨p, ps, rfl⟩
    rw [pieces_cons_eq e]
    rw [e] at ih
    simp at ih
    split
    · simp
      omega
    · simp
      omega
theorem pieces_each (c : Nat) : ∀ (t : List Nat) (l : List Nat), l ∈ Sd49.pieces c t → l.length ≤ t.length
  | [], l, h => by
    simp [Sd49.pieces] at h
    simp [h]
  | x :: r, l, h => by
    obtain ⟨p, ps, e⟩ : ∃ p ps, Sd49.pieces c r = p :: ps := by
      cases q : Sd49.pieces c r with
      | nil => exact absurd q (pieces_ne c r)
      | cons p ps => exact ⟨p, ps, rfl⟩
    have ih := fun l hl => pieces_each c r l (by rw [e]; exact hl)
    rw [pieces_cons_eq e] at h
    split at h
    · rcases List.mem_cons.mp h with rfl | h
      · simp
      · have := ih l h
        simp
        omega
    · rcases List.mem_cons.mp h with rfl | h
      · have := ih p (by simp)
        simp
        omega
      · have := ih l (by simp [h])
        simp
        omega
theorem ok_lines {f : Addr} {fd : FuncData} (F : Fun K "lines_of" "lines_of" sLines f fd) (T : TxTab mg) : FnOk P w K mg base CX0 1 f fd ["text"] (spLines K) := by
  refine F.ok scLines (fun vs H Q E h => ?_) (fun cdv A outer s H vs Q E hr h => ?_)
  · obtain ⟨a, t, rfl, _⟩ := h
    rfl
  · obtain ⟨a, t, rfl, hS, hlen, k⟩ := h
    refine ⟨_, pss_cons (ps_set (i := 1) scLines.nd rfl (Or.inl rfl) (pe_lst (pa_cons (pe_lst pa_nil) pa_nil)))
      (pss_cons (ps_for PassesOwn.never rfl (pi_list (pv 0)) (pg_name (i := 2) scLines.nd rfl (Or.inl rfl))
        (pss_one (ps_if (pt_cmpR op_eq (pv 2) (pe_cst rfl T.nl) (nomark _))
          (pss_one (ps_expr (pe_bm PySem.F.plainAttrs_list PySem.F.slot_list_append PySem.F.type_list_append mt_append (pv 1) (pa_cons (pe_lst pa_nil) pa_nil))))
          (pss_one (ps_expr (pe_bm PySem.F.plainAttrs_list PySem.F.slot_list_append PySem.F.type_list_append mt_append (pe_ix ix_list (pv 1) (pe_un un_neg pe_int) (fun _ _ => rfl)) (pa_cons (pv 2) pa_nil)))))))
      (pss_cut (ps_if (PW.pt (pw_and (pt_cmpR op_gt (pe_callB call_len_seq rfl T.len PySem.boot_len (pa_cons (pv 1) pa_nil)) pe_int (nomark _))
          (pw_and1 (pt_cmpR op_eq (pe_callB call_len_seq rfl T.len PySem.boot_len (pa_cons (pe_ix ix_list (pv 1) (pe_un un_neg pe_int) (fun _ _ => rfl)) pa_nil)) pe_int (nomark _)))))
        (pss_one (ps_expr (pe_bm0 PySem.F.plainAttrs_list PySem.F.slot_list_pop PySem.F.type_list_pop mt_pop (pv 1)))) pss_nil)
      (pss_one (ps_ret (pv 1))))), ?_⟩
    refine ⟨Nat.zero_le _, fun q0 hq0 => ⟨(by show 1 ≤ sizeLine; decide), fun p hp => ?_⟩⟩
    have npq : p ≠ q0 := fun z => by
      rw [z, upd_same] at hp
      cases hp
    rw [upd_ne npq] at hp
    have hS1 : Same H (upd (upd H q0 (.lst [])) p (.lst [.ref q0])) := fun b o e => by
      rw [upd_ne (ne_of_none e hp), upd_ne (ne_of_none e hq0)]
      exact e
    have L0 : LinesAt (upd (upd H q0 (.lst [])) p (.lst [.ref q0])) p [q0] [[]] := by
      refine ⟨upd_same, by simp, rfl, fun j x l h1 h2 => ?_⟩
      cases j with
      | zero =>
        cases h1
        cases h2
        rw [upd_ne (Ne.symm npq), upd_same]
        rfl
      | succ j => simp at h1
    refine ⟨_, rfl, a, rfl, ⟨_, hS1.seq hS⟩, for_list (K := K) (a := a) (xs := byt t) (fun i σ H' => ∃ (v : Option V) (as : List Addr), σ = [some (.ref a), some (.ref p), v] ∧ Same H H' ∧ LinesAt H' p as (Sd49.pieces 10 (t.take i)) ∧ p ∉ as ∧ ∀ x, x ∈ p :: as → H x = none)
      ⟨none, [q0], rfl, hS1, L0, by simpa using npq, fun x hx => by simp at hx; rcases hx with rfl | rfl; exact hp; exact hq0⟩ (fun i σ H' _ ⟨_, _, _, s5, _⟩ => s5.seq hS) ?_ ?_⟩
    · rintro i x σ H' hx ⟨v, as, rfl, s5, L, np, fr⟩
      obtain ⟨c, hc, rfl⟩ := byt_at hx
      obtain ⟨acc, last, ep⟩ := pieces_split (t.take i)
      have sm : as.length ≤ 4097 := by
        rw [L.len]
        have := pieces_small 10 (t.take i)
        have : (t.take i).length ≤ t.length := by rw [List.length_take]; omega
        omega
      have nx := pieces_snoc 10 c (t.take i) acc last ep
      refine ⟨_, rfl, rfl, _, rfl, ?_⟩
      by_cases h10 : c = 10
      · subst h10
        refine iteT ⟨_, rfl, .inl ⟨rfl, _, SqL.of L.lst⟩, Nat.zero_le _, fun q hq => ?_⟩
        have nqp : p ≠ q := fun z => by
          rw [← z, L.lst] at hq
          cases hq
        obtain ⟨L2', np2⟩ := L.more np hq
        refine ⟨p, as.map V.ref, .ref q, rfl, rfl, by rw [upd_ne nqp]; exact L.lst, by rw [List.length_map, sizeLine_eq]; omega, ?_⟩
        have Hq : H q = none := s5.free hq
        refine ⟨_, as ++ [q], rfl, fun b o e => ?_, ?_, np2, fun x hx => ?_⟩
        · have n1 : b ≠ p := ne_of_none e (fr p (by simp))
          have n2 : b ≠ q := ne_of_none e Hq
          rw [upd_ne n1, upd_ne n2]
          exact s5 b o e
        · rw [take_snoc hc, nx, if_pos rfl, ← ep]
          exact L2'
        · rw [← List.cons_append, List.mem_append] at hx
          rcases hx with hx | hx
          · exact fr x hx
          · simp at hx
            rw [hx]
            exact Hq
      · rw [decide_eq_false (fun z => h10 (by injection z with z; omega))]
        obtain ⟨bs, q, rfl⟩ : ∃ bs q, as = bs ++ [q] := by
          have hne : as ≠ [] := fun z => by
            have e1 := L.len
            rw [z, ep] at e1
            simp at e1
          exact ⟨as.dropLast, as.getLast hne, (List.dropLast_concat_getLast hne).symm⟩
        rw [ep] at L
        obtain ⟨hq, L2'⟩ := L.put (c := c) np
        have lastlen : last.length ≤ 4096 := by
          have := pieces_each 10 (t.take i) last (by rw [ep]; simp)
          have : (t.take i).length ≤ t.length := by rw [List.length_take]; omega
          omega
        refine iteF ⟨_, rfl, 1, rfl, p, _, _, .ref q, rfl, rfl, SqL.of L.lst, ?_, .inl ⟨rfl, _, SqL.of hq⟩, _, rfl, q, _, _, rfl, rfl, hq, by rw [byt_len, sizeLine_eq]; omega, ?_⟩
        · rw [List.map_append]
          exact atI_last _ _
        · refine ⟨_, bs ++ [q], rfl, fun b o e => ?_, ?_, np, fr⟩
          · have n2 : b ≠ q := ne_of_none e (fr q (by simp))
            rw [upd_ne n2]
            exact s5 b o e
          · rw [take_snoc hc, nx, if_neg h10]
            exact L2'
    · rintro σ H' ⟨v, as, rfl, s5, L, np, fr⟩
      rw [byt_len, List.take_length] at L
      have sm : as.length ≤ 4097 := by
        rw [L.len]
        have := pieces_small 10 t
        omega
      obtain ⟨acc, last, ep⟩ := pieces_split t
      obtain ⟨bs, q, rfl⟩ : ∃ bs q, as = bs ++ [q] := by
        have hne : as ≠ [] := fun z => by
          have e1 := L.len
          rw [z, ep] at e1
          simp at e1
        exact ⟨as.dropLast, as.getLast hne, (List.dropLast_concat_getLast hne).symm⟩
      have hq : H' q = some (.lst (byt last)) := by
        have e1 := L.len
        rw [ep] at e1
        simp at e1
        exact L.at_ bs.length q last (by simp) (by rw [ep, e1]; simp)
      have gl : (Sd49.pieces 10 t).getLast? = some last := by rw [ep]; simp
      refine ⟨fun σ' H2 => σ' = [some (.ref a), some (.ref p), v] ∧ ∃ as', Same H H2 ∧ LinesAt H2 p as' (linesP t), ?_, ?_⟩
      · refine ⟨_, rfl, p, _, rfl, .inl (SqL.of L.lst), _, _, rfl, rfl, _, rfl, ?_⟩
        rw [List.length_map, L.len]
        by_cases h1 : (1 : Int) < (((Sd49.pieces 10 t).length : Nat) : Int)
        · rw [decide_eq_true h1]
          refine iteT ⟨_, rfl, 1, rfl, p, _, _, .ref q, rfl, rfl, SqL.of L.lst, by rw [List.map_append]; exact atI_last _ _, q, _, rfl, .inl (SqL.of hq), rfl, _, rfl, ?_⟩
          rw [byt_len]
          by_cases h2 : last = []
          · subst h2
            refine iteT ⟨_, rfl, .inl ⟨rfl, _, SqL.of L.lst⟩, p, _, .ref q, rfl, rfl, L.lst, by simp, ?_⟩
            refine ⟨rfl, (bs ++ [q]).dropLast, fun b o e => ?_, ?_⟩
            · have n1 : b ≠ p := ne_of_none e (fr p (by simp))
              rw [upd_ne n1]
              exact s5 b o e
            · unfold linesP
              rw [if_pos ⟨by omega, gl⟩]
              exact L.pop np
          · have h3 : last.length ≠ 0 := fun z => h2 (List.length_eq_zero_iff.mp z)
            rw [decide_eq_false (fun z => h3 (by injection z with z; omega))]
            refine iteF ⟨rfl, bs ++ [q], s5, ?_⟩
            unfold linesP
            rw [if_neg (fun z => h2 (by rw [gl] at z; exact Option.some.inj z.2))]
            exact L
        · rw [decide_eq_false h1]
          refine iteF (iteF ⟨rfl, bs ++ [q], s5, ?_⟩)
          unfold linesP
          rw [if_neg (fun z => h1 (by omega))]
          exact L
      · rintro σ' H2 ⟨rfl, as', s6, L6⟩
        exact ⟨_, rfl, k H2 p as' s6 L6⟩
end
end LT
end
section
set_option linter.all false
set_option Elab.async false
set_option maxRecDepth 100000
set_option maxHeartbeats 2000000
namespace LT
open PySem PySem.Spec PyProof.Rows L2 LX
abbrev sRate : Stmt := top 40
abbrev sLives : Stmt := top 41
abbrev sTableOf : Stmt := top 38
theorem byt_take (l : List Nat) (i : Nat) : (byt l).take i = byt (l.take i) := by
  unfold byt
  rw [List.map_take]
theorem byt_drop (l : List Nat) (i : Nat) : (byt l).drop i = byt (l.drop i) := by
  unfold byt
  rw [List.map_drop]
theorem cut_to {xs : List V} {j : Nat} (h : j ≤ xs.length) : cutV xs none (some (j : Int)) = xs.take j := by
  unfold cutV
  rw [HT.sIx_nat, HT.sIx_none, List.drop_zero, Nat.min_eq_left h]
  rfl
theorem cut_from {xs : List V} {j : Nat} (h : j ≤ xs.length) : cutV xs (some (j : Int)) none = xs.drop j := by
  unfold cutV
  rw [HT.sIx_nat, HT.sIx_none, Nat.min_eq_left h]
  exact List.take_of_length_le (by rw [List.length_drop]; exact Nat.le_refl _)
theorem Same.lay {H : Hp} {p : Addr} {o : HO} (h : H p = none) : Same H (upd H p o) := fun b u e => by
  rw [upd_ne (ne_of_none e h)]
  exact e
section
variable {X : Cx}
/-- xs.count(n), ints -/
theorem mt_countI : MtR X "list.count" (fun x xs H Q => ∃ (a : Addr) (ns : List Int) (k : Int), x = .ref a ∧ xs = [.int k] ∧ SqL X.K H a (ns.map V.int) ∧ Q (.int ((ns.count k : Nat) : Int)) H) := by
  intro pins s σ H x xs v us Q I rx rxs h
  obtain ⟨a, ns, k, rfl, rfl, hs, q⟩ := h
  obtain rfl : v = Value.ref a := rx
  obtain ⟨u, rfl, t, rfl⟩ := vals1 rxs
  obtain ⟨its, rv, pl, hlen⟩ := I.list hs
  exact count_list_ints pl.isList (intsAre_of rv) ⟨.int ((ns.count k : Nat) : Int), H, I.tok _, ⟨_, rfl⟩, q⟩
end
theorem for_enum {K : PySem.W.Frag} {a : Addr} {xs : List V} {g : TG} {tb : TS} {D : Ends} {σ : L2.St} {H : Hp} (Pv : Nat → L2.St → Hp → Prop) (h0 : Pv 0 σ H) (hl : ∀ i σ H, i ≤ xs.length → Pv i σ H → SqL K H a xs)
    (hs : ∀ i x σ H T, xs[i]? = some x → Pv i σ H → H T = none → g (.ref T) σ (upd H T (.tup [.int (i : Nat), x])) fun σ2 H2 => tb { D with nx := Pv (i + 1), ct := Pv (i + 1), bk := D.nx } σ2 H2) (hd : ∀ σ H, Pv xs.length σ H → D.nx σ H) :
    ∃ W : Nat → Nat → L2.St → Hp → Prop, (∃ m, W 0 m σ H) ∧ ∀ i m σ H, W i m σ H →
      ((Ite K a).stop i H ∧ D.nx σ H) ∨ ((Ite K a).go i H ∧ ∃ N : L2.St → Hp → Prop, (∀ σ' H', N σ' H' → ∃ m', m' < m ∧ W (i + 1) m' σ' H') ∧ ∀ x H', (Ite K a).yld i H x H' → g x σ H' fun σ2 H2 => tb { D with nx := N, ct := N, bk := D.nx } σ2 H2) := by
  refine ⟨fun i m σ H => m = xs.length - i ∧ i ≤ xs.length ∧ Pv i σ H, ⟨xs.length, by simp, Nat.zero_le _, h0⟩, ?_⟩
  rintro i m σ H ⟨rfl, hi, p⟩
  have q := hl i σ H hi p
  by_cases hlt : i < xs.length
  · refine .inr ⟨⟨xs, xs[i], q, by simp [hlt]⟩, Pv (i + 1), fun σ' H' p' => ⟨xs.length - (i + 1), by omega, rfl, hlt, p'⟩, fun x H' y => ?_⟩
    obtain ⟨T, x', rfl, hT, rfl, hx⟩ := y
    exact hs i x' σ H T (hx xs q) p hT
  · have e : i = xs.length := by omega
    subst e
    exact .inl ⟨⟨xs, q, Nat.le_refl _⟩, hd σ H p⟩
section
variable {P : Program} {w : World} {K : PySem.W.Frag} {mg : Str → Option Value} {base : Heap}
theorem RefE.mono {R : Addr} {H H1 : Hp} {n : Int} {E : XK} (h : RefE K R H n E) (s : Same H H1) : RefE K R H1 n E := fun C dx H' a b c d => h C dx H' a b c (s.trans d)
/-- the reading of raise C(..), C one of the refusals -/
theorem raise_read {R C f : Addr} {x : Str} {ar : List V → Option Int} {vs : List V} {n : Int} {H0 H : Hp} {E : XK} {E' : XK} (O : RC K mg R C f x) (ha : ar vs = some n) (hl : vs.length ≤ 9) (s : Same H0 H) (hE : RefE K R H n E) :
    vs.length ≤ sizeLine ∧ ∀ x, H x = none → spSub (K := K) ar (.ref x :: vs) (upd H x (xo x C none)) (fun v H2 => v = .non ∧ ∃ x' C' dx, V.ref x = .ref x' ∧ H2 x' = some (xo x' C' (some dx)) ∧ xclsIn K C' = true ∧ H0 x' = none ∧ E (.ref C') (some dx) (L2.del H2 x')) E' := by
  refine ⟨by rw [sizeLine_eq]; omega, fun x nx => ⟨x, C, n, vs, rfl, ha, upd_same, O.xc.cls, O.st, fun dx h1 h2 => ⟨rfl, x, C, dx, rfl, upd_same, O.xc.cls, s.free nx, ?_⟩⟩⟩
  exact made_ref hE O.sub O.gt nx h1 h2
/-! ### rate_of -/
def spRate (K : PySem.W.Frag) (R CR : Addr) : Sp := fun vs H Q E => ∃ (a : Addr) (b : List Nat), vs = [.ref a] ∧ SqL K H a (byt b) ∧ (Sd49.interestRead b = none → RefE K R H (-101) E) ∧
  ∀ x y, Sd49.interestRead b = some (x, y) → ∀ (H' : Hp) (q : Addr), Same H H' → H q = none → RatioAt CR H' q (Sd49.fr (x : Nat) y) → Q (.ref q) H'
theorem scRate : FnScope ["line", "middle", "top", "bottom"] ["line"] (defScope sRate) := ⟨rfl, rfl, rfl, by decide +kernel, rfl, by decide +kernel, by decide +kernel⟩
theorem count_byt (b : List Nat) : ((b.map fun n => ((n : Nat) : Int)).count 47 = 0) ↔ 47 ∉ b := by
  rw [List.count_eq_zero]
  constructor
  · intro h z
    exact h (List.mem_map.mpr ⟨47, z, rfl⟩)
  · intro h z
    obtain ⟨n, hn, e⟩ := List.mem_map.mp z
    exact h (by have : n = 47 := by omega
                exact this ▸ hn)
theorem byt_ints (b : List Nat) : byt b = (b.map fun n => ((n : Nat) : Int)).map V.int := by
  unfold byt
  rw [List.map_map]
  rfl
theorem ok_rate {f fN fW fI R C CR : Addr} {fd fdN fdW fdI : FuncData} (F : Fun K "rate_of" "rate_of" sRate f fd) (T : TxTab mg) (GN : FnOk P w K mg base CX0 2 fN fdN ["digits", "least", "greatest"] (spNumber K)) (kN : PySem.W.keepIn K (.ref fN) = true)
    (mN : mg "number_of" = some (.ref fN)) (bN : Binds K fdN ["digits", "least", "greatest"] []) (O : RC K mg R C fW "WrongLine") (GO : FnOk P w K mg base CX0 2 fW fdW ["self", "line"] (spSub (K := K) arWrong)) (bO : Binds K fdW ["self", "line"] [])
    (M : Mk K CR fI) (GI : FnOk P w K mg base CX0 2 fI fdI ["self", "top", "bottom"] (spRatio CR)) (mC : mg "Ratio" = some (.ref CR)) (bI : Binds K fdI ["self", "top", "bottom"] []) :
    FnOk P w K mg base (CXR P w) 4 f fd ["line"] (spRate K R CR) := by
  refine F.okX scRate (fun vs H Q E h => ?_) (fun cdv A outer s H vs Q E hr h => ?_)
  · obtain ⟨a, b, rfl, _⟩ := h
    rfl
  · obtain ⟨a, b, rfl, hS, kE, kQ⟩ := h
    have hr2 : Room 2 _ := hr.mono (by decide)
    refine ⟨_, pss_cut (ps_if (pt_cmpR op_eq (pe_bm PySem.F.plainAttrs_list PySem.F.slot_list_count PySem.F.type_list_count mt_countI (pv 0) (pa_cons (pe_cst rfl T.slash) pa_nil)) pe_int (nomark _)) (pss_one (ps_raise (pe_xmake O.xc GO hr rfl O.nm bO pass0 (pa_cons pe_int pa_nil)))) pss_nil)
      (pss_cons (ps_set (i := 1) scRate.nd rfl (Or.inl rfl) (pe_bm PySem.F.plainAttrs_list PySem.F.slot_list_index PySem.F.type_list_index mt_index (pv 0) (pa_cons (pe_cst rfl T.slash) pa_nil)))
      (pss_cons (ps_set (i := 2) scRate.nd rfl (Or.inl rfl) (pe_call GN hr2 rfl mN kN bN .nil pass0 (pa_cons (pe_slice sl_list (pv 0) po_none (po_some (pv 1))) (pa_cons pe_int (pa_cons (pe_cst rfl T.part) pa_nil)))))
      (pss_cons (ps_set (i := 3) scRate.nd rfl (Or.inl rfl) (pe_call GN hr2 rfl mN kN bN .nil pass0 (pa_cons (pe_slice sl_list (pv 0) (po_some (pe_op op_add (pv 1) pe_int)) po_none) (pa_cons pe_int (pa_cons (pe_cst rfl T.part) pa_nil)))))
      (pss_cut (ps_if (PW.pt (pw_or (pt_cmpR op_isN (pv 2) pe_non (nomark _)) (pw_or1 (pt_cmpR op_isN (pv 3) pe_non (nomark _))))) (pss_one (ps_raise (pe_xmake O.xc GO hr rfl O.nm bO pass0 (pa_cons pe_int pa_nil)))) pss_nil)
      (pss_one (ps_ret (pe_make M GI hr rfl mC bI .nil pass0 (pa_cons (pv 2) (pa_cons (pv 3) pa_nil))))))))), ?_⟩
    have hSi : SqL K H a ((b.map fun n => ((n : Nat) : Int)).map V.int) := by rw [← byt_ints]; exact hS
    refine ⟨fun σ' H' => σ' = [some (.ref a), none, none, none] ∧ H' = H ∧ 47 ∈ b, ?_, ?_⟩
    · refine ⟨_, rfl, .inl ⟨rfl, _, hS⟩, a, _, _, rfl, rfl, hSi, rfl, _, rfl, ?_⟩
      by_cases h47 : 47 ∈ b
      · have hc : ((b.map fun n => ((n : Nat) : Int)).count 47) ≠ 0 := fun z => (count_byt b).mp z h47
        rw [decide_eq_false (fun z => hc (by injection z with z; omega))]
        exact iteF ⟨rfl, rfl, h47⟩
      · rw [(count_byt b).mpr h47]
        exact iteT (raise_read (E' := E0) O (ar := arWrong) (vs := [.int 1]) (n := -101) rfl (by decide) (fun _ _ e => e) (kE (interest_none h47)))
    · rintro σ' H' ⟨rfl, rfl, h47⟩
      obtain ⟨x, y, rfl, hn⟩ := first_at h47
      have hlen : (byt (x ++ 47 :: y)).length = x.length + 1 + y.length := by
        rw [byt_len]
        simp
        omega
      have e47 : (byt (x ++ 47 :: y))[x.length]? = some (.int (47 : Nat)) := by
        unfold byt
        rw [List.getElem?_map, List.getElem?_append_right (Nat.le_refl _)]
        simp
      have flat : (byt (x ++ 47 :: y)).all flatV = true := by
        rw [List.all_eq_true]
        intro v hv
        unfold byt at hv
        obtain ⟨n, _, rfl⟩ := List.mem_map.mp hv
        rfl
      refine ⟨_, rfl, .inl ⟨rfl, _, hS⟩, a, _, .int 47, x.length, .int (47 : Nat), rfl, rfl, hS, rfl, flat, e47, rfl, fun m z' hm hz => ?_, ?_⟩
      · obtain ⟨n, hn', rfl⟩ := byt_at hz
        rw [List.getElem?_append_left hm] at hn'
        have ne : n ≠ 47 := fun q => hn (q ▸ List.mem_of_getElem? hn')
        show decide (((n : Nat) : Int) = 47) = false
        exact decide_eq_false (fun q => ne (by omega))
      refine ⟨_, rfl, _, rfl, _, rfl, a, _, rfl, hS, fun p1 hp1 => ?_⟩
      rw [cut_to (by rw [hlen]; omega), byt_take, List.take_left' rfl]
      have S1 : Same H' (upd H' p1 (.lst (byt x))) := Same.lay hp1
      refine ⟨p1, x, 0, 1000, rfl, SqL.of upd_same, ?_⟩
      refine ⟨_, rfl, _, rfl, _, _, rfl, rfl, _, rfl, a, _, rfl, S1.seq hS, fun p2 hp2 => ?_⟩
      have ec : cutV (byt (x ++ 47 :: y)) (some ((x.length : Int) + 1)) none = byt y := by
        have := cut_from (xs := byt (x ++ 47 :: y)) (j := x.length + 1) (by rw [hlen]; omega)
        rw [show (((x.length + 1 : Nat)) : Int) = (x.length : Int) + 1 from rfl] at this
        rw [this, byt_drop]
        congr 1
        rw [List.drop_append]
        simp
      rw [ec]
      have S2 : Same H' (upd (upd H' p1 (.lst (byt x))) p2 (.lst (byt y))) := S1.trans (Same.lay hp2)
      refine ⟨p2, y, 1, 1000, rfl, SqL.of upd_same, ?_⟩
      have iv := interest_at (y := y) hn
      refine ⟨fun σ2 H2 => σ2 = [some (.ref a), some (.int (x.length : Nat)), some (ov (numIn x 0 1000)), some (ov (numIn y 1 1000))] ∧ H2 = upd (upd H' p1 (.lst (byt x))) p2 (.lst (byt y)) ∧ numIn x 0 1000 ≠ none ∧ numIn y 1 1000 ≠ none, ?_, ?_⟩
      · refine ⟨_, rfl, rfl, _, rfl, ?_⟩
        cases e1 : numIn x 0 1000 with
        | none =>
          refine iteT (iteT (raise_read (E' := E0) O (ar := arWrong) (vs := [.int 1]) (n := -101) rfl (by decide) S2 ((kE ?_).mono S2)))
          rw [iv, e1]
          rfl
        | some u =>
          refine iteF ⟨_, rfl, rfl, _, rfl, ?_⟩
          cases e2 : numIn y 1 1000 with
          | none =>
            refine iteT (raise_read (E' := E0) O (ar := arWrong) (vs := [.int 1]) (n := -101) rfl (by decide) S2 ((kE ?_).mono S2))
            rw [iv, e1, e2]
            rfl
          | some v => exact iteF ⟨rfl, rfl, by simp, by simp⟩
      · rintro σ2 H2 ⟨rfl, rfl, n1, n2⟩
        obtain ⟨u, e1⟩ := Option.ne_none_iff_exists'.mp n1
        obtain ⟨v, e2⟩ := Option.ne_none_iff_exists'.mp n2
        rw [e1, e2]
        have b1 := numIn_le e1
        have b2 := numIn_le e2
        refine ⟨_, rfl, _, rfl, ?_⟩
        intro z dz nz ndz nez
        refine ⟨z, dz, (u : Nat), v, rfl, upd_same, by omega, fits_of (k := 10) (by rw [Int.natAbs_natCast]; show u < 1024; omega) (by decide), fits_of (k := 10) (by rw [Int.natAbs_natCast]; show v < 1024; omega) (by decide), fun H5 hT k5 => ⟨rfl, ?_⟩⟩
        refine kQ u v ?_ _ z (S2.trans (Same.made nz ndz k5)) (S2.free nz) hT
        rw [iv, e1, e2]
        rfl
end
end LT
end
section
set_option linter.all false
set_option Elab.async false
set_option maxRecDepth 100000
set_option maxHeartbeats 2000000
namespace LT
open PySem PySem.Spec PyProof.Rows L2 LX
/-- the lives, as the program reads them -/
def livesP (ls : List (List Nat)) : Except Nat (List Nat) := match Sd49.livesRead 2 1000000 [] ls with
  | .error k => .error k
  | .ok l => if l = [] then .error 2 else .ok l
section
variable {P : Program} {w : World} {K : PySem.W.Frag} {mg : Str → Option Value} {base : Heap}
/-! ### lives_of -/
def spLives (K : PySem.W.Frag) (R : Addr) : Sp := fun vs H Q E => ∃ (p : Addr) (as : List Addr) (ls : List (List Nat)), vs = [.ref p] ∧ SqL K H p (as.map V.ref) ∧ as.length = ls.length ∧ ls.length ≤ 4097 ∧ (∀ (j : Nat) (a : Addr) (l : List Nat), as[j]? = some a → ls[j]? = some l → SqL K H a (byt l)) ∧
  (∀ k, livesP ls = .error k → RefE K R H (-100 - (k : Nat)) E) ∧ ∀ lv, livesP ls = .ok lv → ∀ (H' : Hp) (q : Addr), Same H H' → H q = none → H' q = some (.lst (byt lv)) → Q (.ref q) H'
theorem scLives : FnScope ["lines", "lives", "greatest", "age", "line", "living"] ["lines"] (defScope sLives) := ⟨rfl, rfl, rfl, by decide +kernel, rfl, by decide +kernel, by decide +kernel⟩
theorem ok_lives {f fN fW R C : Addr} {fd fdN fdW : FuncData} (F : Fun K "lives_of" "lives_of" sLives f fd) (T : TxTab mg) (mEn : mg "enumerate" = none) (GN : FnOk P w K mg base CX0 2 fN fdN ["digits", "least", "greatest"] (spNumber K)) (kN : PySem.W.keepIn K (.ref fN) = true)
    (mN : mg "number_of" = some (.ref fN)) (bN : Binds K fdN ["digits", "least", "greatest"] []) (O : RC K mg R C fW "WrongLine") (GO : FnOk P w K mg base CX0 2 fW fdW ["self", "line"] (spSub (K := K) arWrong)) (bO : Binds K fdW ["self", "line"] []) :
    FnOk P w K mg base (CXR P w) 4 f fd ["lines"] (spLives K R) := by
  refine F.okX scLives (fun vs H Q E h => ?_) (fun cdv A outer s H vs Q E hr h => ?_)
  · obtain ⟨p, as, ls, rfl, _⟩ := h
    rfl
  · obtain ⟨p, as, ls, rfl, hS, hl, hsm, hL, kE, kQ⟩ := h
    have hr2 : Room 2 _ := hr.mono (by decide)
    refine ⟨_, pss_cut (ps_if (pt_cmpR op_eq (pe_callB call_len_seq rfl T.len PySem.boot_len (pa_cons (pv 0) pa_nil)) pe_int (nomark _)) (pss_one (ps_raise (pe_xmake O.xc GO hr rfl O.nm bO pass0 (pa_cons pe_int pa_nil)))) pss_nil)
      (pss_cons (ps_set (i := 1) scLives.nd rfl (Or.inl rfl) (pe_lst pa_nil))
      (pss_cons (ps_set (i := 2) scLives.nd rfl (Or.inl rfl) (pe_cst rfl T.lives))
      (pss_cons (ps_for PassesOwn.leaving rfl (pi_enum rfl mEn (pa_cons (pv 0) pa_nil)) (pg_tup rfl (pgs_cons (pg_name (i := 3) scLives.nd rfl (Or.inl rfl)) (pgs_cons (pg_name (i := 4) scLives.nd rfl (Or.inl rfl)) pgs_nil)))
        (pss_cons (ps_set (i := 5) scLives.nd rfl (Or.inl rfl) (pe_call GN hr2 rfl mN kN bN .nil pass0 (pa_cons (pv 4) (pa_cons pe_int (pa_cons (pv 2) pa_nil)))))
        (pss_cut (ps_if (PW.pt (pw_or (pt_cmpR op_isN (pv 5) pe_non (nomark _)) (pw_or1 (pt_cmpR op_ge (pv 3) (pe_cst rfl T.ages) (nomark _))))) (pss_one (ps_raise (pe_xmake O.xc GO hr rfl O.nm bO pass0 (pa_cons (pe_op op_add (pv 3) pe_int) pa_nil)))) pss_nil)
        (pss_cons (ps_expr (pe_bm PySem.F.plainAttrs_list PySem.F.slot_list_append PySem.F.type_list_append mt_append (pv 1) (pa_cons (pv 5) pa_nil)))
        (pss_one (ps_set (i := 2) scLives.nd rfl (Or.inl rfl) (pv 5)))))))
      (pss_one (ps_ret (pv 1)))))), ?_⟩
    refine ⟨fun σ' H' => σ' = [some (.ref p), none, none, none, none, none] ∧ H' = H ∧ ls ≠ [], ?_, ?_⟩
    · refine ⟨_, rfl, p, _, rfl, .inl hS, rfl, _, rfl, ?_⟩
      rw [List.length_map, hl]
      by_cases h0 : ls = []
      · subst h0
        exact iteT (raise_read (E' := E0) O (ar := arWrong) (vs := [.int 2]) (n := -100 - ((2 : Nat) : Int)) rfl (by decide) (fun _ _ e => e) (kE 2 rfl))
      · have h1 : ls.length ≠ 0 := fun z => h0 (List.length_eq_zero_iff.mp z)
        rw [decide_eq_false (fun z => h1 (by injection z with z; omega))]
        exact iteF ⟨rfl, rfl, h0⟩
    · rintro σ' H0 ⟨rfl, rfl, hne⟩
      refine ⟨Nat.zero_le _, fun q hq => ?_⟩
      have S0 : Same H0 (upd H0 q (.lst [])) := Same.lay hq
      refine ⟨_, rfl, p, _, rfl, S0.seq hS, for_enum (K := K) (a := p) (xs := as.map V.ref) (fun i σ H' => ∃ (g : Nat) (acc : List Nat) (v3 v4 v5 : Option V), σ = [some (.ref p), some (.ref q), some (.int (g : Nat)), v3, v4, v5] ∧ Same H0 H' ∧ H' q = some (.lst (byt acc)) ∧ acc.length = i ∧ g ≤ 1000000 ∧
          Sd49.livesRead 2 1000000 [] ls = Sd49.livesRead (i + 2) g acc (ls.drop i))
        ⟨1000000, [], none, none, none, rfl, S0, upd_same, rfl, Nat.le_refl _, rfl⟩ (fun i σ H' _ ⟨_, _, _, _, _, _, s5, _⟩ => s5.seq hS) ?_ ?_⟩
      · rintro i x σ H' t hx ⟨g, acc, v3, v4, v5, rfl, s5, hacc, hai, hg, er⟩ ht
        rw [List.getElem?_map] at hx
        obtain ⟨a, ha, rfl⟩ : ∃ a, as[i]? = some a ∧ x = .ref a := by
          cases e : as[i]? with
          | none =>
            rw [e] at hx
            cases hx
          | some a =>
            rw [e] at hx
            exact ⟨a, rfl, (Option.some.inj hx).symm⟩
        have hi : i < ls.length := by rw [← hl]; exact (List.getElem?_eq_some_iff.mp ha).1
        have hli : ls[i]? = some ls[i] := List.getElem?_eq_getElem hi
        have ed : ls.drop i = ls[i] :: ls.drop (i + 1) := List.drop_eq_getElem_cons hi
        have nqt : q ≠ t := fun z => by
          rw [← z, hacc] at ht
          cases ht
        have S6 : Same H0 (upd H' t (.tup [.int (i : Nat), .ref a])) := s5.trans (Same.lay ht)
        have hq6 : upd H' t (.tup [.int (i : Nat), .ref a]) q = some (.lst (byt acc)) := by rw [upd_ne nqt]; exact hacc
        refine ⟨t, _, rfl, SqT.of upd_same, rfl, _, _, rfl, _, _, rfl, rfl, ?_⟩
        refine ⟨_, rfl, _, rfl, a, ls[i], 1, g, rfl, S6.seq (hL i a ls[i] ha hli), ?_⟩
        have st := lives_step (i := i + 2) (most := g) (l := acc) (b := ls[i]) (r := ls.drop (i + 1)) hg
        rw [ed, st] at er
        refine ⟨fun σ2 H2 => (∃ v, numIn ls[i] 1 g = some v ∧ σ2 = [some (.ref p), some (.ref q), some (.int (g : Nat)), some (.int (i : Nat)), some (.ref a), some (.int (v : Nat))]) ∧ H2 = upd H' t (.tup [.int (i : Nat), .ref a]) ∧ i < 120, ?_, ?_⟩
        · refine ⟨_, rfl, rfl, _, rfl, ?_⟩
          cases e1 : numIn ls[i] 1 g with
          | none =>
            rw [e1] at er
            refine iteT (iteT ⟨_, rfl, _, _, rfl, rfl, raise_read (E' := E0) O (ar := arWrong) (vs := [.int ((i : Int) + 2)]) (n := -100 - ((i : Int) + 2)) rfl (by show 1 ≤ 9; decide) S6 (((kE (i + 2) ?_)).mono S6)⟩)
            unfold livesP
            rw [er]
          | some v =>
            rw [e1] at er
            refine iteF ⟨_, rfl, _, _, rfl, rfl, _, rfl, ?_⟩
            by_cases h120 : (120 : Int) ≤ (i : Int)
            · rw [decide_eq_true h120]
              refine iteT ⟨_, rfl, _, _, rfl, rfl, raise_read (E' := E0) O (ar := arWrong) (vs := [.int ((i : Int) + 2)]) (n := -100 - ((i : Int) + 2)) rfl (by show 1 ≤ 9; decide) S6 (((kE (i + 2) ?_)).mono S6)⟩
              unfold livesP
              rw [er]
              dsimp only
              rw [if_neg (by omega)]
            · rw [decide_eq_false h120]
              exact iteF ⟨⟨v, rfl, rfl⟩, rfl, by omega⟩
        · rintro σ2 H2 ⟨⟨v, e1, rfl⟩, rfl, h120⟩
          rw [e1] at er
          dsimp only at er
          rw [if_pos (by omega)] at er
          have vb := numIn_le e1
          refine ⟨_, rfl, .inl ⟨rfl, _, SqL.of hq6⟩, _, rfl, q, _, _, rfl, rfl, hq6, by rw [byt_len, sizeLine_eq]; omega, ?_⟩
          refine ⟨_, rfl, ?_⟩
          refine ⟨v, acc ++ [v], _, _, _, rfl, fun b o e => ?_, ?_, by rw [List.length_append, hai]; rfl, by omega, er⟩
          · have nb : b ≠ q := ne_of_none e hq
            rw [upd_ne nb]
            exact S6 b o e
          · rw [upd_same]
            unfold byt
            rw [List.map_append]
            rfl
      · rintro σ H' ⟨g, acc, v3, v4, v5, rfl, s5, hacc, hai, hg, er⟩
        rw [List.length_map] at hai er
        rw [hl, List.drop_length] at er
        refine ⟨_, rfl, kQ acc ?_ H' q s5 hq hacc⟩
        unfold livesP
        rw [er]
        unfold Sd49.livesRead
        dsimp only
        rw [if_neg]
        intro z
        rw [z, hl] at hai
        exact hne (List.length_eq_zero_iff.mp hai.symm)
/-! ### table_of -/
theorem read_P (t : List Nat) : Sd49.read t = (match linesP t with
    | [] => .error 1
    | h :: r => match Sd49.interestRead h with
      | none => .error 1
      | some i => match livesP r with
        | .error k => .error k
        | .ok l => .ok ⟨l, i.1, i.2⟩) := by
  have body : ∀ (h : List Nat) (r : List (List Nat)), (match Sd49.interestRead h with
      | none => Except.error 1
      | some i => match Sd49.livesRead 2 Sd49.MANY [] r with
        | .error k => .error k
        | .ok l => if l = [] then .error 2 else .ok (⟨l, i.1, i.2⟩ : Sd49.Table)) = (match Sd49.interestRead h with
      | none => .error 1
      | some i => match livesP r with
        | .error k => .error k
        | .ok l => .ok ⟨l, i.1, i.2⟩) := fun h r => by
    cases Sd49.interestRead h with
    | none => rfl
    | some i =>
      have e : livesP r = (match Sd49.livesRead 2 Sd49.MANY [] r with
        | .error k => .error k
        | .ok l => if l = [] then .error 2 else .ok l) := rfl
      rw [e]
      cases Sd49.livesRead 2 Sd49.MANY [] r with
      | error k => rfl
      | ok l =>
        dsimp only
        split <;> rfl
  unfold Sd49.read Sd49.linesOf linesP
  dsimp only
  by_cases h1 : (Sd49.pieces 10 t).getLast? = some []
  · rw [if_pos h1]
    by_cases h2 : 1 < (Sd49.pieces 10 t).length
    · rw [if_pos ⟨h2, h1⟩]
      cases (Sd49.pieces 10 t).dropLast with
      | nil => rfl
      | cons h r => exact body h r
    · rw [if_neg (fun z => h2 z.1)]
      obtain ⟨acc, last, e⟩ := pieces_split t
      have ea : acc = [] := by
        rw [e, List.length_append] at h2
        simp at h2
        exact h2
      subst ea
      rw [e] at h1 ⊢
      simp at h1
      subst h1
      rfl
  · rw [if_neg h1, if_neg (fun z => h1 z.2)]
    cases e : Sd49.pieces 10 t with
    | nil => exact absurd e (pieces_ne 10 t)
    | cons h r => exact body h r
end
end LT
end
section
set_option linter.all false
set_option Elab.async false
set_option maxRecDepth 100000
set_option maxHeartbeats 2000000
namespace LT
open PySem PySem.Spec PyProof.Rows L2 LX
theorem linesP_ne (t : List Nat) : linesP t ≠ [] := by
  unfold linesP
  split
  · rename_i h
    intro z
    have := congrArg List.length z
    rw [List.length_dropLast] at this
    simp at this
    omega
  · exact pieces_ne 10 t
theorem linesP_small {t : List Nat} (h : t.length ≤ 4096) : (linesP t).length ≤ 4097 := by
  have := pieces_small 10 t
  unfold linesP
  split
  · rw [List.length_dropLast]
    omega
  · omega
theorem cut_tail {as : List Addr} {a : Addr} : cutV ((a :: as).map V.ref) (some 1) none = as.map V.ref := by
  have := cut_from (xs := (a :: as).map V.ref) (j := 1) (by simp)
  exact this
section
variable {P : Program} {w : World} {K : PySem.W.Frag} {mg : Str → Option Value} {base : Heap}
def spTable (K : PySem.W.Frag) (R CR C : Addr) : Sp := fun vs H Q E => ∃ (a : Addr) (t : List Nat), vs = [.ref a] ∧ SqL K H a (byt t) ∧ t.length ≤ 4096 ∧ (∀ k, Sd49.read t = .error k → RefE K R H (-100 - (k : Nat)) E) ∧
  ∀ T, Sd49.read t = .ok T → ∀ (H' : Hp) (p : Addr), Same H H' → TabFr CR C H H' p (nrm T) → Q (.ref p) H'
theorem scTable : FnScope ["text", "lines", "rate"] ["text"] (defScope sTableOf) := ⟨rfl, rfl, rfl, by decide +kernel, rfl, by decide +kernel, by decide +kernel⟩
theorem ok_tableOf {f fL fR fV fI R CR C : Addr} {fd fdL fdR fdV fdI : FuncData} (F : Fun K "table_of" "table_of" sTableOf f fd) (GL : FnOk P w K mg base CX0 1 fL fdL ["text"] (spLines K)) (kL : PySem.W.keepIn K (.ref fL) = true) (mL : mg "lines_of" = some (.ref fL)) (bL : Binds K fdL ["text"] [])
    (GR : FnOk P w K mg base (CXR P w) 4 fR fdR ["line"] (spRate K R CR)) (kR : PySem.W.keepIn K (.ref fR) = true) (mR : mg "rate_of" = some (.ref fR)) (bR : Binds K fdR ["line"] [])
    (GV : FnOk P w K mg base (CXR P w) 4 fV fdV ["lines"] (spLives K R)) (kV : PySem.W.keepIn K (.ref fV) = true) (mV : mg "lives_of" = some (.ref fV)) (bV : Binds K fdV ["lines"] [])
    (M : Mk K C fI) (GI : FnOk P w K mg base CX0 1 fI fdI ["self", "rate", "lives"] (spTabInit C)) (mC : mg "Table" = some (.ref C)) (bI : Binds K fdI ["self", "rate", "lives"] []) :
    FnOk P w K mg base (CXR P w) 5 f fd ["text"] (spTable K R CR C) := by
  refine F.okX scTable (fun vs H Q E h => ?_) (fun cdv A outer s H vs Q E hr h => ?_)
  · obtain ⟨a, t, rfl, _⟩ := h
    rfl
  · obtain ⟨a, t, rfl, hS, hlen, kE, kQ⟩ := h
    have hr1 : Room 1 _ := hr.mono (by decide)
    have hr2 : Room 2 _ := hr.mono (by decide)
    refine ⟨_, pss_cons (ps_set (i := 1) scTable.nd rfl (Or.inl rfl) (pe_call GL hr1 rfl mL kL bL .nil pass0 (pa_cons (pv 0) pa_nil)))
      (pss_cons (ps_set (i := 2) scTable.nd rfl (Or.inl rfl) (pe_call GR hr rfl mR kR bR .nil pass_cx (pa_cons (pe_ix ix_list (pv 1) pe_int (fun _ _ => rfl)) pa_nil)))
      (pss_one (ps_ret (pe_make M GI hr2 rfl mC bI .nil pass0 (pa_cons (pv 2) (pa_cons (pe_call GV hr rfl mV kV bV .nil pass_cx (pa_cons (pe_slice sl_list (pv 1) (po_some pe_int) po_none) pa_nil)) pa_nil)))))), ?_⟩
    have rd := read_P t
    refine ⟨_, rfl, a, t, rfl, hS, hlen, fun H1 p as S1 L => ?_⟩
    cases el : linesP t with
    | nil => exact absurd el (linesP_ne t)
    | cons hd r =>
      rw [el] at rd
      dsimp only at rd
      have hsm := linesP_small hlen
      rw [el] at L hsm
      obtain ⟨a0, as', rfl⟩ : ∃ a0 as', as = a0 :: as' := by
        cases as with
        | nil =>
          have := L.len
          simp at this
        | cons a0 as' => exact ⟨a0, as', rfl⟩
      refine ⟨_, rfl, p, _, _, .ref a0, rfl, rfl, SqL.of L.lst, atI_nat (j := 0) rfl, a0, hd, rfl, SqL.of (L.at_ 0 a0 hd rfl rfl), fun e1 => ?_, fun x y e1 H2 q S2 fq hq => ?_⟩
      · rw [e1] at rd
        exact (kE 1 rd).mono S1
      · rw [e1] at rd
        dsimp only at rd
        have S12 := S1.trans S2
        obtain ⟨dq, hq⟩ := hq
        refine ⟨_, rfl, _, rfl, _, rfl, p, _, rfl, SqL.of (S2 _ _ L.lst), fun p3 hp3 => ?_⟩
        rw [cut_tail]
        have S3 : Same H2 (upd H2 p3 (.lst (as'.map V.ref))) := Same.lay hp3
        have hl := L.len
        simp at hl
        refine ⟨p3, as', r, rfl, SqL.of upd_same, hl, by simp at hsm; omega, fun j b l h1 h2 => SqL.of (S3 _ _ (S2 _ _ (L.at_ (j + 1) b l h1 h2))), fun k e2 => ?_, fun lv e2 H4 q4 S4 fq4 hq4 => ?_⟩
        · rw [e2] at rd
          exact (kE k rd).mono (S12.trans S3)
        · rw [e2] at rd
          dsimp only at rd
          intro z dz nz ndz nez
          have hd : 0 < y := by have := interest_good e1; omega
          have hqr : H4 q = some (.ins CR dq (rf (Sd49.fr (x : Nat) y).num (Sd49.fr (x : Nat) y).den)) := S4 _ _ (S3 _ _ hq)
          have en := nrm_rate (T := ⟨lv, x, y⟩) hd
          have SA := (S12.trans S3).trans S4
          refine ⟨z, dz, q, q4, rfl, upd_same, fun H5 hT k5 => ⟨rfl, ?_⟩⟩
          have kk : ∀ b o, H4 b = some o → H5 b = some o := fun b o e => k5 b o (by rw [upd_ne (ne_of_none e nz), upd_ne (ne_of_none e ndz)]; exact e) (ne_of_none e nz)
          refine kQ _ rd H5 z (SA.trans (Same.made nz ndz k5)) ⟨dz, q, q4, dq, hT, ?_, kk _ _ hq4, SA.free nz, S1.free fq, (S12.trans S3).free fq4⟩
          rw [kk _ _ hqr, en]
          rfl
end
end LT
end
section
set_option linter.all false
set_option Elab.async false
set_option maxRecDepth 100000
set_option maxHeartbeats 2000000
namespace LT
open PySem PySem.Spec PyProof.Rows L2 LX
/-! ### a def, a method, a class, each with what a call of it asks -/
def GF (P : Program) (w : World) (K : PySem.W.Frag) (mg : Str → Option Value) (base : Heap) (CX : CXT) (x : Str) (k : Nat) (ps : List Str) (sp : Sp) : Prop :=
  ∃ f fd, FnOk P w K mg base CX k f fd ps sp ∧ PySem.W.keepIn K (.ref f) = true ∧ Binds K fd ps [] ∧ mg x = some (.ref f)
def GM (P : Program) (w : World) (K : PySem.W.Frag) (mg : Str → Option Value) (base : Heap) (CX : CXT) (C : Addr) (m : Str) (k : Nat) (ps : List Str) (sp : Sp) : Prop :=
  ∃ f fd, FnOk P w K mg base CX k f fd ps sp ∧ Meth K C m f ∧ Binds K fd ps []
def GC (P : Program) (w : World) (K : PySem.W.Frag) (mg : Str → Option Value) (base : Heap) (CX : CXT) (x : Str) (C : Addr) (k : Nat) (ps : List Str) (sp : Sp) : Prop :=
  ∃ f fd, FnOk P w K mg base CX k f fd ps sp ∧ Mk K C f ∧ Binds K fd ps [] ∧ mg x = some (.ref C)
section
variable {X : Cx} {CX : CXT} {k j : Nat} {C : Addr} {ps : List Str} {sp : Sp} {E : XK} {x m : Str} {p pos apos : Pos} {e o : Expr} {es : List Expr} {ta : TE} {t : TA}
theorem pe_gf (G : GF X.prog X.w X.K X.mg X.base CX x k ps sp) (hr : Room j X.A) (hx : Passes CX X E) (ha : PA X (e :: es) t) (hkj : k ≤ j := by decide) (hg : Gl X x := by rfl)
    (hdb : (x == ("__debug__" : Str)) = false := by decide) (he : starEach (e :: es) X.env = (false, eval e X.env) :: starEach es X.env := by rfl) (hpl : (backTo pos (starEach es X.env)).any (·.1) = false := by rfl) :
    PE X (.Call (.Name x p) (e :: es) [] pos) (tCall sp [] E t) := by
  obtain ⟨f, fd, F, kp, b, hm⟩ := G
  exact pe_call F (hr.mono hkj) hg hm kp b .nil hx ha hdb he hpl
theorem pe_gm {pl : Sem Bool} (ho : PE X o ta) (c : Cls X.K C) (G : GM X.prog X.w X.K X.mg X.base CX C m k ps sp) (hr : Room j X.A) (hx : Passes CX X E) (ha : PA X (e :: es) t) (hkj : k ≤ j := by decide)
    (hst : starEach (e :: es) X.env = (false, eval e X.env) :: starEach es X.env := by rfl) (hpl : (backTo pos (starEach es X.env)).any (·.1) = false := by rfl)
    (ht : eval (.Call (.Attribute o m apos) (e :: es) [] pos) X.env = (do
      let ov ← eval o X.env
      standAt apos.atName
      let (f, first) ← holding [ov] (getMethod ov m pl)
      callWith pos f first (backTo pos (starEach (e :: es) X.env)) (backToKw pos (keywordEach [] X.env))) := by rfl) :
    PE X (.Call (.Attribute o m apos) (e :: es) [] pos) (tMeth C m sp [] E ta t) := by
  obtain ⟨f, fd, F, hm, b⟩ := G
  exact pe_meth ho c hm F (hr.mono hkj) b .nil hx ha hst hpl ht
theorem pe_gm0 {pl : Sem Bool} (ho : PE X o ta) (c : Cls X.K C) (G : GM X.prog X.w X.K X.mg X.base CX C m k ps sp) (hr : Room j X.A) (hx : Passes CX X E) (hkj : k ≤ j := by decide)
    (ht : eval (.Call (.Attribute o m apos) [] [] pos) X.env = (do
      let ov ← eval o X.env
      standAt apos.atName
      let (f, first) ← holding [ov] (getMethod ov m pl)
      callWith pos f first (backTo pos (starEach [] X.env)) (backToKw pos (keywordEach [] X.env))) := by rfl) :
    PE X (.Call (.Attribute o m apos) [] [] pos) (tMeth C m sp [] E ta tNil) := by
  obtain ⟨f, fd, F, hm, b⟩ := G
  exact pe_meth0 ho c hm F (hr.mono hkj) b .nil hx ht
theorem pe_gc (G : GC X.prog X.w X.K X.mg X.base CX x C k ps sp) (hr : Room j X.A) (hx : Passes CX X E) (ha : PA X (e :: es) t) (hkj : k + 1 ≤ j := by decide) (hg : Gl X x := by rfl)
    (hdb : (x == ("__debug__" : Str)) = false := by decide) (he : starEach (e :: es) X.env = (false, eval e X.env) :: starEach es X.env := by rfl) (hpl : (backTo pos (starEach es X.env)).any (·.1) = false := by rfl) :
    PE X (.Call (.Name x p) (e :: es) [] pos) (tMake C sp [] E t) := by
  obtain ⟨f, fd, F, M, b, hm⟩ := G
  exact pe_make M F (hr.mono hkj) hg hm b .nil hx ha hdb he hpl
theorem pe_gc0 (G : GC X.prog X.w X.K X.mg X.base CX x C k ps sp) (hr : Room j X.A) (hx : Passes CX X E) (hkj : k + 1 ≤ j := by decide) (hg : Gl X x := by rfl)
    (hdb : (x == ("__debug__" : Str)) = false := by decide) : PE X (.Call (.Name x p) [] [] pos) (tMake C sp [] E tNil) := by
  obtain ⟨f, fd, F, M, b, hm⟩ := G
  exact pe_make0 M F (hr.mono hkj) hg hm b .nil hx hdb
end
/-- * of numbers that are not too great -/
theorem Fits.bits {i : Int} (h : Fits i) : Builtin.Int.intBits i ≤ 13500 := by
  unfold Fits at h
  unfold Builtin.Int.intBits
  split <;> omega
theorem op_mulF {X : Cx} : OpR X (binaryOp .Mult) (rI (fun i j => Fits i ∧ Fits j) fun i j => .int (i * j)) := opI fun i j _ _ _ _ _ hc q => mul_int q (mulOk_of_bits hc.1.bits hc.2.bits (by decide))
theorem Sm.fits {k : Nat} {i : Int} (h : Sm k i) (hk : k ≤ 13500 := by decide) : Fits i := fits_of h.below hk
theorem Sm.told {k : Nat} {i : Int} (h : Sm k i) (hk : k ≤ 12900 := by decide) : i.natAbs < 10 ^ 4300 := by
  have h1 : i.natAbs < 2 ^ 12900 := (h.mono hk).below
  have e : (2 : Nat) ^ 12900 ≤ 10 ^ 4300 := by
    have : (2 : Nat) ^ 12900 = (2 ^ 3) ^ 4300 := by rw [← Nat.pow_mul]
    rw [this]
    exact Nat.pow_le_pow_left (by decide) _
  exact Nat.lt_of_lt_of_le h1 e
end LT
end
section
set_option linter.all false
set_option Elab.async false
set_option maxRecDepth 100000
set_option maxHeartbeats 2000000
namespace LT
open PySem PySem.Spec PyProof.Rows L2 LX
abbrev sStInit : Stmt := inClass (top 56) 0
abbrev sWays : Stmt := inClass (top 56) 1
abbrev sGone : Stmt := inClass (top 56) 2
abbrev sThere : Stmt := inClass (top 56) 3
def sf (t : Addr) (k x y : Int) : List (Str × V) := putF "y" (.int y) (putF "x" (.int x) (putF "kind" (.int k) (putF "table" (.ref t) [])))
theorem sf_table (t : Addr) (k x y : Int) : (sf t k x y).lookup ("table" : Str) = some (.ref t) := by
  unfold sf
  rw [lookup_putF, if_neg (by decide), lookup_putF, if_neg (by decide), lookup_putF, if_neg (by decide), lookup_putF, if_pos rfl]
theorem sf_kind (t : Addr) (k x y : Int) : (sf t k x y).lookup ("kind" : Str) = some (.int k) := by
  unfold sf
  rw [lookup_putF, if_neg (by decide), lookup_putF, if_neg (by decide), lookup_putF, if_pos rfl]
theorem sf_x (t : Addr) (k x y : Int) : (sf t k x y).lookup ("x" : Str) = some (.int x) := by
  unfold sf
  rw [lookup_putF, if_neg (by decide), lookup_putF, if_pos rfl]
theorem sf_y (t : Addr) (k x y : Int) : (sf t k x y).lookup ("y" : Str) = some (.int y) := by
  unfold sf
  rw [lookup_putF, if_pos rfl]
theorem sf_no (t : Addr) (k x y : Int) {m : Str} (h1 : ¬ m = "table") (h2 : ¬ m = "kind") (h3 : ¬ m = "x") (h4 : ¬ m = "y") : (sf t k x y).lookup m = none := by
  unfold sf
  rw [lookup_putF, if_neg h4, lookup_putF, if_neg h3, lookup_putF, if_neg h2, lookup_putF, if_neg h1]
  rfl
/-- the classes' places -/
structure CS where
  r : Addr
  t : Addr
  s : Addr
/-- a status of a table, as it may be asked for -/
structure WfS (T : Sd49.Table) (s : Sd49.Status) : Prop where
  tab : WfT T
  kind : s.kind ≤ 2
  x : s.x < T.lives.length
  y : s.kind ≠ 0 → s.y < T.lives.length
  there : 0 < Sd49.alive T s 0
theorem wfS_of {T : Sd49.Table} (W : WfT T) {k x y : Int} {s : Sd49.Status} (h : Sd49.statusOf T k x y = some s) : WfS T s := by
  have p := alive_pos W h
  rw [statusOf_eq W] at h
  split at h
  · rename_i c
    cases h
    refine ⟨W, by show k.toNat ≤ 2; omega, by show x.toNat < _; omega, fun z => ?_, p⟩
    have hk : k ≠ 0 := fun q => z (by show k.toNat = 0; omega)
    have := c.2.2 hk
    show (if k = 0 then 0 else y.toNat) < _
    rw [if_neg hk]
    omega
  · cases h
/-- the status s of the table T stands at a -/
def StAt (c : CS) (H : Hp) (a : Addr) (T : Sd49.Table) (s : Sd49.Status) : Prop := ∃ dx t y, H a = some (.ins c.s dx (sf t (s.kind : Nat) (s.x : Nat) y)) ∧ (s.kind ≠ 0 → y = ((s.y : Nat) : Int)) ∧ TabAt c.r c.t H t T
theorem StAt.same {c : CS} {H H' : Hp} {a : Addr} {T : Sd49.Table} {s : Sd49.Status} (h : StAt c H a T s) (e : Same H H') : StAt c H' a T s := by
  obtain ⟨dx, t, y, h1, h2, h3⟩ := h
  exact ⟨dx, t, y, e _ _ h1, h2, h3.same e⟩
structure TxSt (K : PySem.W.Frag) (mg : Str → Option Value) (C : Addr) : Prop where
  cl : Cls K C
  nT : NoAttr K C "table"
  nK : NoAttr K C "kind"
  nX : NoAttr K C "x"
  nY : NoAttr K C "y"
  one : ∃ t, mg "ONE_LIFE" = some (.int 0 t)
  first : ∃ t, mg "TILL_FIRST_DIES" = some (.int 1 t)
  last : ∃ t, mg "TILL_LAST_DIES" = some (.int 2 t)
  time : ∃ t, mg "LONGEST_TIME" = some (.int 240 t)
  max : mg "max" = none
  min : mg "min" = none
section
variable {P : Program} {w : World} {K : PySem.W.Frag} {mg : Str → Option Value} {base : Heap}
abbrev psD : List Str := ["number", "least", "greatest"]
/-! ### Status.__init__ -/
def spStInit (K : PySem.W.Frag) (R : Addr) (c : CS) : Sp := fun vs H Q E => ∃ (H0 : Hp) (p dx t : Addr) (T : Sd49.Table) (k x y : Int), vs = [.ref p, .ref t, .int k, .int x, .int y] ∧ H p = some (.ins c.s dx []) ∧ H0 p = none ∧ Same H0 H ∧ TabAt c.r c.t H0 t T ∧ WfT T ∧
  (Sd49.statusOf T k x y = none → RefE K R H0 (-2) E) ∧ ∀ s, Sd49.statusOf T k x y = some s → ∀ H' : Hp, Same H0 H' → StAt c H' p T s → Q .non H'
theorem scStInit : FnScope ["self", "table", "kind", "x", "y"] ["self", "table", "kind", "x", "y"] (defScope sStInit) := ⟨rfl, rfl, rfl, by decide +kernel, rfl, by decide +kernel, by decide +kernel⟩
theorem Same.new {H : Hp} {z dz : Addr} {o : HO} (nz : H z = none) (nd : H dz = none) : Same H (upd (upd H dz (.own z)) z o) := fun b u e => by
  rw [upd_ne (ne_of_none e nz), upd_ne (ne_of_none e nd)]
  exact e
theorem _root_.L2.Same.put {H0 H : Hp} {p : Addr} {o : HO} (s : Same H0 H) (n : H0 p = none) : Same H0 (upd H p o) := fun b u e => by
  rw [upd_ne (ne_of_none e n)]
  exact s b u e
theorem ok_stInit {f R : Addr} {c : CS} {fd : FuncData} (F : Fun K "__init__" "Status.__init__" sStInit f fd) (T : TxSt K mg c.s) (TT : TxTable K c.t) (GD : GF P w K mg base (CXR P w) "demand_within" 4 psD (spDemand K R)) (GO : GM P w K mg base CX0 c.t "oldest" 1 ["self"] (spOldest c.r c.t)) :
    FnOk P w K mg base (CXR P w) 5 f fd ["self", "table", "kind", "x", "y"] (spStInit K R c) := by
  refine F.okX scStInit (fun vs H Q E h => ?_) (fun cdv A outer s H vs Q E hr h => ?_)
  · obtain ⟨H0, p, dx, t, T, k, x, y, rfl, _⟩ := h
    rfl
  · obtain ⟨H0, p, dx, t, Tb, k, x, y, rfl, hp, n0, s0, hT0, W, kE0, kQ⟩ := h
    have hT := hT0.same s0
    have kE := fun e => (kE0 e).mono s0
    obtain ⟨dt, r, l, dr, ht, hR, hl⟩ := id hT
    have nn : (tf r l).lookup ("oldest" : Str) = none := tf_no _ _ (by decide +kernel) (by decide +kernel)
    refine ⟨_, pss_cons (ps_expr (pe_gf GD hr pass_cx (pa_cons (pv 2) (pa_cons (pe_cst rfl T.one) (pa_cons (pe_cst rfl T.last) pa_nil)))))
      (pss_cons (ps_expr (pe_gf GD hr pass_cx (pa_cons (pv 3) (pa_cons pe_int (pa_cons (pe_gm0 (pv 1) TT.cl GO hr pass0) pa_nil)))))
      (pss_cut (ps_if (pt_cmpR op_ne (pv 2) (pe_cst rfl T.one) (nomark _)) (pss_one (ps_expr (pe_gf GD hr pass_cx (pa_cons (pv 4) (pa_cons pe_int (pa_cons (pe_gm0 (pv 1) TT.cl GO hr pass0) pa_nil)))))) pss_nil)
      (pss_cons (ps_fld (pv 0) (pv 1) rfl) (pss_cons (ps_fld (pv 0) (pv 2) rfl) (pss_cons (ps_fld (pv 0) (pv 3) rfl) (pss_one (ps_fld (pv 0) (pv 4) rfl))))))), ?_⟩
    have se := statusOf_eq W k x y
    refine ⟨_, rfl, k, 0, 2, rfl, fun c1 => ?_, fun c1 => kE (by rw [se, if_neg (fun z => c1 z.1)])⟩
    refine ⟨_, rfl, _, rfl, t, dt, _, rfl, ht, nn, t, Tb, rfl, hT, x, 0, _, rfl, fun c2 => ?_, fun c2 => kE (by rw [se, if_neg (fun z => c2 z.2.1)])⟩
    refine ⟨fun σ' H' => σ' = [some (.ref p), some (.ref t), some (.int k), some (.int x), some (.int y)] ∧ H' = H ∧ (k ≠ 0 → 0 ≤ y ∧ y ≤ (Tb.lives.length : Int) - 1), ?_, ?_⟩
    · refine ⟨_, rfl, rfl, _, rfl, ?_⟩
      by_cases hk : k = 0
      · subst hk
        exact iteNS rfl ⟨rfl, rfl, fun z => absurd rfl z⟩
      · rw [decide_eq_false (fun q => hk (by injection q with q))]
        refine iteT ⟨_, rfl, _, rfl, t, dt, _, rfl, ht, nn, t, Tb, rfl, hT, y, 0, _, rfl, fun c3 => ⟨rfl, rfl, fun _ => c3⟩, fun c3 => kE (by rw [se, if_neg (fun z => c3 (z.2.2 hk))])⟩
    · rintro σ' H' ⟨rfl, rfl, c3⟩
      refine ⟨_, rfl, _, rfl, p, c.s, dx, _, rfl, hp, T.cl, T.nT, (by show 0 < 1000; decide), ?_⟩
      refine ⟨_, rfl, _, rfl, p, c.s, dx, _, rfl, upd_same, T.cl, T.nK, (by show 1 < 1000; decide), ?_⟩
      refine ⟨_, rfl, _, rfl, p, c.s, dx, _, rfl, upd_same, T.cl, T.nX, (by show 2 < 1000; decide), ?_⟩
      refine ⟨_, rfl, _, rfl, p, c.s, dx, _, rfl, upd_same, T.cl, T.nY, (by show 3 < 1000; decide), ?_⟩
      rw [if_pos ⟨c1, c2, c3⟩] at se
      refine kQ _ se _ ((((s0.put n0).put n0).put n0).put n0) ⟨dx, t, y, ?_, ?_, hT0.same ((((s0.put n0).put n0).put n0).put n0)⟩
      · have e1 : ((k.toNat : Nat) : Int) = k := by omega
        have e2 : ((x.toNat : Nat) : Int) = x := by omega
        show _ = some (HO.ins c.s dx (sf t ((k.toNat : Nat) : Int) ((x.toNat : Nat) : Int) y))
        rw [e1, e2]
        exact upd_same
      · intro z
        have hk : k ≠ 0 := fun q => z (by show k.toNat = 0; omega)
        show y = (((if k = 0 then 0 else y.toNat) : Nat) : Int)
        rw [if_neg hk]
        have := c3 hk
        omega
/-! ### Status.ways -/
def spWays (c : CS) : Sp := fun vs H Q _ => ∃ (p : Addr) (T : Sd49.Table) (s : Sd49.Status) (n : Nat), vs = [.ref p, .int (n : Nat)] ∧ StAt c H p T s ∧ WfS T s ∧ Q (.int ((Sd49.alive T s n : Nat) : Int)) H
theorem scWays : FnScope ["self", "when", "first", "second", "first_all", "second_all", "neither"] ["self", "when"] (defScope sWays) := ⟨rfl, rfl, rfl, by decide +kernel, rfl, by decide +kernel, by decide +kernel⟩
theorem small_mul {a b : Nat} (h : a ≤ 1000000) : CMul (a : Int) (b : Int) := .inl ⟨by omega, by omega⟩
theorem ok_ways {f : Addr} {c : CS} {fd : FuncData} (F : Fun K "ways" "Status.ways" sWays f fd) (T : TxSt K mg c.s) (TT : TxTable K c.t) (GL : GM P w K mg base CX0 c.t "living" 2 ["self", "age"] (spLiving c.r c.t)) :
    FnOk P w K mg base CX0 3 f fd ["self", "when"] (spWays c) := by
  refine F.ok scWays (fun vs H Q E h => ?_) (fun cdv A outer s H vs Q E hr h => ?_)
  · obtain ⟨p, T, s, n, rfl, _⟩ := h
    rfl
  · obtain ⟨p, Tb, st, n, rfl, hS, W, k⟩ := h
    obtain ⟨dx, t, y, hp, hy, hT⟩ := hS
    obtain ⟨dt, r, l, dr, ht, hR, hl⟩ := id hT
    have nn : (tf r l).lookup ("living" : Str) = none := tf_no _ _ (by decide +kernel) (by decide +kernel)
    refine ⟨_, pss_cons (ps_set (i := 2) scWays.nd rfl (Or.inl rfl) (pe_gm (pe_fld (pv 0) rfl) TT.cl GL hr pass0 (pa_cons (pe_op op_add (pe_fld (pv 0) rfl) (pv 1)) pa_nil)))
      (pss_cons (ps_if (pt_cmpR op_eq (pe_fld (pv 0) rfl) (pe_cst rfl T.one) (nomark _)) (pss_one (ps_ret (pv 2))) pss_nil)
      (pss_cons (ps_set (i := 3) scWays.nd rfl (Or.inl rfl) (pe_gm (pe_fld (pv 0) rfl) TT.cl GL hr pass0 (pa_cons (pe_op op_add (pe_fld (pv 0) rfl) (pv 1)) pa_nil)))
      (pss_cons (ps_if (pt_cmpR op_eq (pe_fld (pv 0) rfl) (pe_cst rfl T.first) (nomark _)) (pss_one (ps_ret (pe_op op_mul (pv 2) (pv 3)))) pss_nil)
      (pss_cons (ps_set (i := 4) scWays.nd rfl (Or.inl rfl) (pe_gm (pe_fld (pv 0) rfl) TT.cl GL hr pass0 (pa_cons (pe_fld (pv 0) rfl) pa_nil)))
      (pss_cons (ps_set (i := 5) scWays.nd rfl (Or.inl rfl) (pe_gm (pe_fld (pv 0) rfl) TT.cl GL hr pass0 (pa_cons (pe_fld (pv 0) rfl) pa_nil)))
      (pss_cons (ps_set (i := 6) scWays.nd rfl (Or.inl rfl) (pe_op op_mul (pe_op op_sub (pv 4) (pv 2)) (pe_op op_sub (pv 5) (pv 3))))
      (pss_one (ps_ret (pe_op op_sub (pe_op op_mul (pv 4) (pv 5)) (pv 6)))))))))), ?_⟩
    have lv := fun x => living_le W.tab (x := x)
    refine ⟨_, rfl, p, c.s, dx, _, _, rfl, hp, T.cl, T.nT, sf_table _ _ _ _, t, dt, _, rfl, ht, nn, _, rfl, p, c.s, dx, _, _, rfl, hp, T.cl, T.nX, sf_x _ _ _ _, _, rfl, _, _, rfl, rfl, t, Tb, st.x + n, rfl, hT, ?_⟩
    refine ⟨_, rfl, p, c.s, dx, _, _, rfl, hp, T.cl, T.nK, sf_kind _ _ _ _, rfl, _, rfl, ?_⟩
    unfold Sd49.alive at k
    dsimp only at k
    by_cases h0 : st.kind = 0
    · rw [if_pos h0] at k
      rw [decide_eq_true (by rw [h0]; rfl)]
      exact iteT ⟨_, rfl, k⟩
    · rw [if_neg h0] at k
      rw [decide_eq_false (fun q => h0 (by injection q with q; omega))]
      have ey := hy h0
      subst ey
      refine iteF ⟨_, rfl, p, c.s, dx, _, _, rfl, hp, T.cl, T.nT, sf_table _ _ _ _, t, dt, _, rfl, ht, nn, _, rfl, p, c.s, dx, _, _, rfl, hp, T.cl, T.nY, sf_y _ _ _ _, _, rfl, _, _, rfl, rfl, t, Tb, st.y + n, rfl, hT, ?_⟩
      refine ⟨_, rfl, p, c.s, dx, _, _, rfl, hp, T.cl, T.nK, sf_kind _ _ _ _, rfl, _, rfl, ?_⟩
      by_cases h1 : st.kind = 1
      · rw [if_pos h1] at k
        rw [decide_eq_true (by rw [h1]; rfl)]
        refine iteT ⟨_, rfl, _, rfl, _, _, rfl, rfl, small_mul (lv _), ?_⟩
        rw [Int.natCast_mul] at k
        exact k
      · rw [if_neg h1] at k
        rw [decide_eq_false (fun q => h1 (by injection q with q; omega))]
        refine iteF ⟨_, rfl, p, c.s, dx, _, _, rfl, hp, T.cl, T.nT, sf_table _ _ _ _, t, dt, _, rfl, ht, nn, _, rfl, p, c.s, dx, _, _, rfl, hp, T.cl, T.nX, sf_x _ _ _ _, t, Tb, st.x, rfl, hT, ?_⟩
        refine ⟨_, rfl, p, c.s, dx, _, _, rfl, hp, T.cl, T.nT, sf_table _ _ _ _, t, dt, _, rfl, ht, nn, _, rfl, p, c.s, dx, _, _, rfl, hp, T.cl, T.nY, sf_y _ _ _ _, t, Tb, st.y, rfl, hT, ?_⟩
        have la := living_mono W.tab (show st.x ≤ st.x + n by omega)
        have lb := living_mono W.tab (show st.y ≤ st.y + n by omega)
        refine ⟨_, rfl, _, rfl, _, _, rfl, rfl, _, rfl, _, rfl, _, _, rfl, rfl, _, _, rfl, rfl, ?_, ?_⟩
        · have := lv st.x
          exact .inl ⟨by omega, by omega⟩
        refine ⟨_, rfl, _, rfl, _, _, rfl, rfl, small_mul (lv _), _, rfl, _, _, rfl, rfl, ?_⟩
        rw [last_eq la lb] at k
        exact k
/-! ### Status.time_gone -/
def spGone (c : CS) : Sp := fun vs H Q _ => ∃ (p : Addr) (T : Sd49.Table) (s : Sd49.Status), vs = [.ref p] ∧ StAt c H p T s ∧ WfS T s ∧ Q (.int ((gone T s : Nat) : Int)) H
theorem scGone : FnScope ["self", "age"] ["self"] (defScope sGone) := ⟨rfl, rfl, rfl, by decide +kernel, rfl, by decide +kernel, by decide +kernel⟩
theorem ok_gone {f : Addr} {c : CS} {fd : FuncData} (F : Fun K "time_gone" "Status.time_gone" sGone f fd) (T : TxSt K mg c.s) (TT : TxTable K c.t) (GO : GM P w K mg base CX0 c.t "oldest" 1 ["self"] (spOldest c.r c.t)) :
    FnOk P w K mg base CX0 2 f fd ["self"] (spGone c) := by
  refine F.ok scGone (fun vs H Q E h => ?_) (fun cdv A outer s H vs Q E hr h => ?_)
  · obtain ⟨p, T, s, rfl, _⟩ := h
    rfl
  · obtain ⟨p, Tb, st, rfl, hS, W, k⟩ := h
    obtain ⟨dx, t, y, hp, hy, hT⟩ := hS
    obtain ⟨dt, r, l, dr, ht, hR, hl⟩ := id hT
    have nn : (tf r l).lookup ("oldest" : Str) = none := tf_no _ _ (by decide +kernel) (by decide +kernel)
    refine ⟨_, pss_cons (ps_set (i := 1) scGone.nd rfl (Or.inl rfl) (pe_fld (pv 0) rfl))
      (pss_cut (ps_if (pt_cmpR op_eq (pe_fld (pv 0) rfl) (pe_cst rfl T.first) (nomark _))
          (pss_one (ps_set (i := 1) scGone.nd rfl (Or.inl rfl) (pe_callB (call_max2 rfl) rfl T.max boot_max (pa_cons (pe_fld (pv 0) rfl) (pa_cons (pe_fld (pv 0) rfl) pa_nil)))))
          (pss_one (ps_if (pt_cmpR op_eq (pe_fld (pv 0) rfl) (pe_cst rfl T.last) (nomark _))
            (pss_one (ps_set (i := 1) scGone.nd rfl (Or.inl rfl) (pe_callB (call_min2 rfl) rfl T.min boot_min (pa_cons (pe_fld (pv 0) rfl) (pa_cons (pe_fld (pv 0) rfl) pa_nil)))))
            pss_nil)))
      (pss_one (ps_ret (pe_op op_sub (pe_op op_add (pe_gm0 (pe_fld (pv 0) rfl) TT.cl GO hr pass0) pe_int) (pv 1))))), ?_⟩
    refine ⟨_, rfl, p, c.s, dx, _, _, rfl, hp, T.cl, T.nX, sf_x _ _ _ _, ?_⟩
    refine ⟨fun σ' H' => σ' = [some (.ref p), some (.int (((if st.kind = 0 then st.x else if st.kind = 1 then max st.x st.y else min st.x st.y) : Nat) : Int))] ∧ H' = H, ?_, ?_⟩
    · refine ⟨_, rfl, p, c.s, dx, _, _, rfl, hp, T.cl, T.nK, sf_kind _ _ _ _, rfl, _, rfl, ?_⟩
      by_cases h1 : st.kind = 1
      · have ey := hy (by omega)
        subst ey
        rw [decide_eq_true (by rw [h1]; rfl)]
        refine iteT ⟨_, rfl, p, c.s, dx, _, _, rfl, hp, T.cl, T.nX, sf_x _ _ _ _, _, rfl, p, c.s, dx, _, _, rfl, hp, T.cl, T.nY, sf_y _ _ _ _, _, _, rfl, ?_⟩
        refine ⟨?_, rfl⟩
        have e : (((if st.kind = 0 then st.x else if st.kind = 1 then max st.x st.y else min st.x st.y) : Nat) : Int) = (if ((st.y : Nat) : Int) > ((st.x : Nat) : Int) then ((st.y : Nat) : Int) else ((st.x : Nat) : Int)) := by
          rw [if_neg (by omega : ¬ st.kind = 0), if_pos h1]
          split <;> omega
        rw [e]
        rfl
      · rw [decide_eq_false (fun q => h1 (by injection q with q; omega))]
        refine iteF ⟨_, rfl, p, c.s, dx, _, _, rfl, hp, T.cl, T.nK, sf_kind _ _ _ _, rfl, _, rfl, ?_⟩
        by_cases h2 : st.kind = 2
        · have ey := hy (by omega)
          subst ey
          rw [decide_eq_true (by rw [h2]; rfl)]
          refine iteT ⟨_, rfl, p, c.s, dx, _, _, rfl, hp, T.cl, T.nX, sf_x _ _ _ _, _, rfl, p, c.s, dx, _, _, rfl, hp, T.cl, T.nY, sf_y _ _ _ _, _, _, rfl, ?_⟩
          refine ⟨?_, rfl⟩
          have e : (((if st.kind = 0 then st.x else if st.kind = 1 then max st.x st.y else min st.x st.y) : Nat) : Int) = (if ((st.y : Nat) : Int) < ((st.x : Nat) : Int) then ((st.y : Nat) : Int) else ((st.x : Nat) : Int)) := by
            rw [if_neg (by omega : ¬ st.kind = 0), if_neg h1]
            split <;> omega
          rw [e]
          rfl
        · rw [decide_eq_false (fun q => h2 (by injection q with q; omega))]
          refine iteF ⟨?_, rfl⟩
          rw [if_pos (by have := W.kind; omega)]
          rfl
    · rintro σ' H' ⟨rfl, rfl⟩
      refine ⟨_, rfl, p, c.s, dx, _, _, rfl, hp, T.cl, T.nT, sf_table _ _ _ _, t, dt, _, rfl, ht, nn, t, Tb, rfl, hT, _, _, rfl, rfl, _, rfl, _, _, rfl, rfl, ?_⟩
      have wx := W.x
      have wy := W.y
      have wk := W.kind
      have e : ((Tb.lives.length : Nat) : Int) - 1 + 1 - (((if st.kind = 0 then st.x else if st.kind = 1 then max st.x st.y else min st.x st.y) : Nat) : Int) = ((gone Tb st : Nat) : Int) := by
        unfold gone
        by_cases h0 : st.kind = 0
        · rw [if_pos h0]
          omega
        · have := wy h0
          rw [if_neg h0]
          by_cases h1 : st.kind = 1
          · rw [if_pos h1]
            omega
          · rw [if_neg h1]
            omega
      rw [← e] at k
      exact k
/-! ### Status.demand_there -/
def spThere (K : PySem.W.Frag) (R : Addr) (c : CS) : Sp := fun vs H Q E => ∃ (p : Addr) (T : Sd49.Table) (s : Sd49.Status) (n : Int), vs = [.ref p, .int n] ∧ StAt c H p T s ∧ WfS T s ∧ (Sd49.yearOf T s n = none → RefE K R H (-2) E) ∧ ((∃ t, Sd49.yearOf T s n = some t) → Q .non H)
theorem scThere : FnScope ["self", "when"] ["self", "when"] (defScope sThere) := ⟨rfl, rfl, rfl, by decide +kernel, rfl, by decide +kernel, by decide +kernel⟩
theorem yearOf_eq (T : Sd49.Table) (s : Sd49.Status) (n : Int) : Sd49.yearOf T s n = if 0 ≤ n ∧ n ≤ 240 then (if 0 < Sd49.alive T s n.toNat then some n.toNat else none) else none := by
  unfold Sd49.yearOf Sd49.among
  by_cases h : 0 ≤ n ∧ n ≤ 240
  · rw [if_pos (by simpa using h), if_pos h]
    rfl
  · rw [if_neg (by simpa using h), if_neg h]
    rfl
theorem ok_there {f R C fO : Addr} {c : CS} {fd fdO : FuncData} (F : Fun K "demand_there" "Status.demand_there" sThere f fd) (T : TxSt K mg c.s) (GD : GF P w K mg base (CXR P w) "demand_within" 4 psD (spDemand K R)) (GW : GM P w K mg base CX0 c.s "ways" 3 ["self", "when"] (spWays c))
    (O : RC K mg R C fO "OutOfRange") (GO : FnOk P w K mg base CX0 2 fO fdO ["self"] (spSub (K := K) arOut)) (bO : Binds K fdO ["self"] []) : FnOk P w K mg base (CXR P w) 5 f fd ["self", "when"] (spThere K R c) := by
  refine F.okX scThere (fun vs H Q E h => ?_) (fun cdv A outer s H vs Q E hr h => ?_)
  · obtain ⟨p, T, s, n, rfl, _⟩ := h
    rfl
  · obtain ⟨p, Tb, st, n, rfl, hS, W, kE, kQ⟩ := h
    have hr3 : Room 3 _ := hr.mono (by decide)
    obtain ⟨dx, t, y, hp, hy, hT⟩ := id hS
    have nn : (sf t (st.kind : Nat) (st.x : Nat) y).lookup ("ways" : Str) = none := sf_no _ _ _ _ (by decide +kernel) (by decide +kernel) (by decide +kernel) (by decide +kernel)
    refine ⟨_, pss_cons (ps_expr (pe_gf GD hr pass_cx (pa_cons (pv 1) (pa_cons pe_int (pa_cons (pe_cst rfl T.time) pa_nil)))))
      (pss_one (ps_if (pt_cmpR op_eq (pe_gm (pv 0) T.cl GW hr pass0 (pa_cons (pv 1) pa_nil)) pe_int (nomark _)) (pss_one (ps_raise (pe_xmake0 O.xc GO hr3 rfl O.nm bO pass0))) pss_nil)), ?_⟩
    have ye := yearOf_eq Tb st n
    refine ⟨_, rfl, n, 0, 240, rfl, fun c1 => ?_, fun c1 => kE (by rw [ye, if_neg c1])⟩
    rw [if_pos c1] at ye
    refine ⟨_, rfl, p, dx, _, rfl, hp, nn, _, rfl, p, Tb, st, n.toNat, ?_, hS, W, rfl, _, rfl, ?_⟩
    · have : ((n.toNat : Nat) : Int) = n := by omega
      rw [this]
      rfl
    · by_cases h0 : 0 < Sd49.alive Tb st n.toNat
      · rw [if_pos h0] at ye
        rw [decide_eq_false (fun q => by injection q with q; omega)]
        exact iteF (kQ ⟨_, ye⟩)
      · rw [if_neg h0] at ye
        rw [decide_eq_true (by congr 1; omega)]
        exact iteT (raise_read (E' := E0) O (ar := arOut) (vs := []) (n := -2) rfl (by decide) (fun _ _ e => e) (kE ye))
end
end LT
end
section
set_option linter.all false
set_option Elab.async false
set_option maxRecDepth 100000
set_option maxHeartbeats 2000000
namespace LT
open PySem PySem.Spec PyProof.Rows L2 LX
abbrev sAlive : Stmt := top 57
abbrev sMean : Stmt := top 58
/-- a fraction that can be told -/
def Tl (f : Sd49.Fr) : Prop := f.num.natAbs < 10 ^ 4300 ∧ f.den < 10 ^ 4300
theorem tl_of {f : Sd49.Fr} {n : Int} {d k : Nat} (h : Is f n d) (a : Sm k n) (b : Sm k (d : Int)) (hk : k ≤ 12900 := by decide) : Tl f := by
  obtain ⟨h1, h2⟩ := h.num_le
  refine ⟨Nat.lt_of_le_of_lt h1 (a.told hk), Nat.lt_of_le_of_lt h2 ?_⟩
  have := b.told hk
  rw [Int.natAbs_natCast] at this
  exact this
/-- a fraction comes, or a refusal -/
def Gives (K : PySem.W.Frag) (R CR : Addr) (H : Hp) (Q : VK) (E : XK) (v : Option Sd49.Fr) : Prop :=
  (v = none → RefE K R H (-2) E) ∧ ∀ f, v = some f → Tl f → ∀ (H' : Hp) (q : Addr), Same H H' → RatioAt CR H' q f → Q (.ref q) H'
theorem among_eq (a z : Nat) (v : Int) : Sd49.among a z v = if (a : Int) ≤ v ∧ v ≤ (z : Int) then some v.toNat else none := rfl
section
variable {P : Program} {w : World} {K : PySem.W.Frag} {mg : Str → Option Value} {base : Heap}
abbrev psR : List Str := ["self", "top", "bottom"]
/-- behind Ratio(n, d) -/
theorem ratio_read {CR : Addr} {H0 H : Hp} {n : Int} {d k : Nat} {f : Sd49.Fr} {Q : VK} {E : XK} {R : Addr} {v : Option Sd49.Fr} {EE : XK} (g : Gives K R CR H0 Q E v) (ev : v = some f) (hf : Is f n d) (a : Sm k n) (b : Sm k (d : Int)) (hk : k ≤ 12900) (s : Same H0 H) :
    ∀ x dx, H x = none → H dx = none → dx ≠ x → spRatio CR [.ref x, .int n, .int (d : Nat)] (upd (upd H dx (.own x)) x (.ins CR dx [])) (fun v H2 => v = .non ∧ Q (.ref x) H2) EE := by
  intro z dz nz ndz nez
  refine ⟨z, dz, n, d, rfl, upd_same, hf.pos, a.fits (by omega), b.fits (by omega), fun H5 hT k5 => ⟨rfl, ?_⟩⟩
  rw [← hf.eq] at hT
  exact g.2 f ev (tl_of hf a b hk) H5 z (s.trans (Same.made nz ndz k5)) hT
/-! ### alive -/
def spAlive (K : PySem.W.Frag) (R : Addr) (c : CS) : Sp := fun vs H Q E => ∃ (p : Addr) (T : Sd49.Table) (s : Sd49.Status) (n : Int), vs = [.ref p, .int n] ∧ StAt c H p T s ∧ WfS T s ∧
  Gives K R c.r H Q E ((Sd49.among 0 240 n).map fun t => Sd49.fr (Sd49.alive T s t : Int) (Sd49.alive T s 0))
theorem scAlive : FnScope ["status", "when"] ["status", "when"] (defScope sAlive) := ⟨rfl, rfl, rfl, by decide +kernel, rfl, by decide +kernel, by decide +kernel⟩
theorem ok_alive {f R : Addr} {c : CS} {fd : FuncData} (F : Fun K "alive" "alive" sAlive f fd) (T : TxSt K mg c.s) (GD : GF P w K mg base (CXR P w) "demand_within" 4 psD (spDemand K R)) (GW : GM P w K mg base CX0 c.s "ways" 3 ["self", "when"] (spWays c))
    (GR : GC P w K mg base CX0 "Ratio" c.r 2 psR (spRatio c.r)) : FnOk P w K mg base (CXR P w) 5 f fd ["status", "when"] (spAlive K R c) := by
  refine F.okX scAlive (fun vs H Q E h => ?_) (fun cdv A outer s H vs Q E hr h => ?_)
  · obtain ⟨p, T, s, n, rfl, _⟩ := h
    rfl
  · obtain ⟨p, Tb, st, n, rfl, hS, W, g⟩ := h
    obtain ⟨dx, t, y, hp, hy, hT⟩ := id hS
    have nn : (sf t (st.kind : Nat) (st.x : Nat) y).lookup ("ways" : Str) = none := sf_no _ _ _ _ (by decide +kernel) (by decide +kernel) (by decide +kernel) (by decide +kernel)
    refine ⟨_, pss_cons (ps_expr (pe_gf GD hr pass_cx (pa_cons (pv 1) (pa_cons pe_int (pa_cons (pe_cst rfl T.time) pa_nil)))))
      (pss_one (ps_ret (pe_gc GR hr pass0 (pa_cons (pe_gm (pv 0) T.cl GW hr pass0 (pa_cons (pv 1) pa_nil)) (pa_cons (pe_gm (pv 0) T.cl GW hr pass0 (pa_cons pe_int pa_nil)) pa_nil))))), ?_⟩
    refine ⟨_, rfl, n, 0, 240, rfl, fun c1 => ?_, fun c1 => g.1 (by rw [among_eq, if_neg (by simpa using c1)]; rfl)⟩
    refine ⟨_, rfl, p, dx, _, rfl, hp, nn, _, rfl, p, Tb, st, n.toNat, ?_, hS, W, _, rfl, p, dx, _, rfl, hp, nn, p, Tb, st, 0, rfl, hS, W, ?_⟩
    · have : ((n.toNat : Nat) : Int) = n := by omega
      rw [this]
      rfl
    · exact ratio_read (k := 40) g (by rw [among_eq, if_pos (by simpa using c1)]; rfl) (Is.mk' _ W.there) (alive_sm W.tab _) (alive_sm W.tab _) (by decide) (fun _ _ e => e)
/-! ### mean -/
theorem alive_end {T : Sd49.Table} {s : Sd49.Status} (W : WfT T) {t : Nat} (h : T.lives.length ≤ t) : Sd49.alive T s t = 0 := by
  have z : ∀ x, Sd49.living T (x + t) = 0 := fun x => by
    have := living_pos W (x := x + t)
    omega
  unfold Sd49.alive
  dsimp only
  rw [z s.x, z s.y]
  simp
theorem mean_sum {T : Sd49.Table} {s : Sd49.Status} (W : WfT T) {m : Nat} (hm : m + 1 = T.lives.length) : ((List.range 120).map fun t => Sd49.alive T s (t + 1)).sum = ((List.range m).map fun t => Sd49.alive T s (t + 1)).sum := by
  have hl := W.len
  obtain ⟨r, hr⟩ : ∃ r, 120 = m + r := ⟨120 - m, by omega⟩
  rw [hr, List.range_add, List.map_append, List.sum_append]
  have e : (List.map (fun t => Sd49.alive T s (t + 1)) (List.map (fun x => m + x) (List.range r))).sum = 0 := by
    generalize List.range r = l
    induction l with
    | nil => rfl
    | cons b l ih =>
      rw [List.map_cons, List.map_cons, List.sum_cons, ih, alive_end W (by omega)]
  rw [e]
  rfl
def spMean (K : PySem.W.Frag) (R : Addr) (c : CS) : Sp := fun vs H Q E => ∃ (p : Addr) (T : Sd49.Table) (s : Sd49.Status), vs = [.ref p] ∧ StAt c H p T s ∧ WfS T s ∧ Gives K R c.r H Q E (some (Sd49.mean T s))
theorem scMean : FnScope ["status", "ways", "when"] ["status"] (defScope sMean) := ⟨rfl, rfl, rfl, by decide +kernel, rfl, by decide +kernel, by decide +kernel⟩
theorem tYes_of {σ : L2.St} {H : Hp} {A B : Hp → Prop} (h : A H) : tYes σ H (fun b H3 => if b = true then A H3 else B H3) := by
  show if true = true then A H else B H
  rw [if_pos rfl]
  exact h
theorem sum_snoc (l : List Int) (z : Int) : (l ++ [z]).sum = l.sum + z := by
  induction l with
  | nil => simp
  | cons a l ih =>
    rw [List.cons_append, List.sum_cons, List.sum_cons, ih]
    omega
theorem ok_mean {f R : Addr} {c : CS} {fd : FuncData} (F : Fun K "mean" "mean" sMean f fd) (T : TxSt K mg c.s) (TT : TxTable K c.t) (GO : GM P w K mg base CX0 c.t "oldest" 1 ["self"] (spOldest c.r c.t)) (GW : GM P w K mg base CX0 c.s "ways" 3 ["self", "when"] (spWays c))
    (GR : GC P w K mg base CX0 "Ratio" c.r 2 psR (spRatio c.r)) (mR : mg "range" = none) (mS : mg "sum" = none) : FnOk P w K mg base CX0 4 f fd ["status"] (spMean K R c) := by
  refine F.ok scMean (fun vs H Q E h => ?_) (fun cdv A outer s H vs Q E hr h => ?_)
  · obtain ⟨p, T, s, rfl, _⟩ := h
    rfl
  · obtain ⟨p, Tb, st, rfl, hS, W, g⟩ := h
    obtain ⟨dx, t, y, hp, hy, hT⟩ := id hS
    obtain ⟨dt, r, l, dr, ht, hR, hl⟩ := id hT
    have nn : (sf t (st.kind : Nat) (st.x : Nat) y).lookup ("ways" : Str) = none := sf_no _ _ _ _ (by decide +kernel) (by decide +kernel) (by decide +kernel) (by decide +kernel)
    have no : (tf r l).lookup ("oldest" : Str) = none := tf_no _ _ (by decide +kernel) (by decide +kernel)
    refine ⟨_, pss_cons (ps_set (i := 1) scMean.nd rfl (Or.inl rfl) (pe_callB (cr_sum rfl) rfl mS boot_sum (pa_cons (pe_lc (own := [("when", 2)]) rfl scMean.nd
        (pi_range2 rfl mR (pa_cons pe_int (pa_cons (pe_op op_add (pe_gm0 (pe_fld (pv 0) rfl) TT.cl GO hr pass0) pe_int) pa_nil))) (blkOk_by (show blkC ["status", "ways", "when"] (defScope sMean) _ _ = true by decide +kernel))
        (fun s' H' C cl fp => pg_name (i := 2) scMean.nd rfl (Or.inl rfl)) (fun s' H' C cl fp => pts_nil) (fun s' H' C cl fp => pe_gm (pv 0) T.cl GW hr pass0 (pa_cons (pv 2) pa_nil))) pa_nil)))
      (pss_one (ps_ret (pe_gc GR hr pass0 (pa_cons (pv 1) (pa_cons (pe_gm (pv 0) T.cl GW hr pass0 (pa_cons pe_int pa_nil)) pa_nil))))), ?_⟩
    obtain ⟨m, hm⟩ : ∃ m, m + 1 = Tb.lives.length := ⟨Tb.lives.length - 1, by have := W.x; omega⟩
    have hl := W.tab.len
    refine ⟨_, rfl, p, c.s, dx, _, _, rfl, hp, T.cl, T.nT, sf_table _ _ _ _, t, dt, _, rfl, ht, no, t, Tb, rfl, hT, _, _, rfl, rfl, 1, _, rfl, ⟨by decide, by decide, by omega, by omega⟩, ?_⟩
    intro D hD
    have en : ((Tb.lives.length : Int) - 1 + 1 - 1).toNat = m := by omega
    rw [en]
    refine lc_range (fun i H' => Same H H' ∧ H' D = some (.lst (((List.range i).map fun t => ((Sd49.alive Tb st (t + 1) : Nat) : Int)).map V.int))) ⟨Same.lay hD, upd_same⟩ ?_ ?_
    · rintro i H' hi ⟨S, hD'⟩
      refine ⟨rfl, ?_⟩
      refine tYes_of ⟨_, rfl, p, dx, _, rfl, S _ _ hp, nn, _, rfl, p, Tb, st, 1 + i, rfl, hS.same S, W, _, hD', ?_, ?_, ?_⟩
      · rw [List.length_map, List.length_map, List.length_range, sizeLine_eq]
        omega
      · intro b o e
        rw [upd_ne (ne_of_none e hD)]
        exact S b o e
      · rw [upd_same, List.range_succ, List.map_append, List.map_append, Nat.add_comm 1 i]
        rfl
    · rintro H' ⟨S, hD'⟩
      refine ⟨D, _, rfl, SqL.of hD', ?_⟩
      refine ⟨_, rfl, _, rfl, p, dx, _, rfl, S _ _ hp, nn, p, Tb, st, 0, rfl, hS.same S, W, ?_⟩
      have es : ((List.range m).map fun t => ((Sd49.alive Tb st (t + 1) : Nat) : Int)).sum = ((((List.range 120).map fun t => Sd49.alive Tb st (t + 1)).sum : Nat) : Int) := by
        rw [mean_sum W.tab hm]
        generalize List.range m = l
        induction l with
        | nil => rfl
        | cons a l ih =>
          rw [List.map_cons, List.map_cons, List.sum_cons, List.sum_cons, ih]
          push_cast
          rfl
      rw [es]
      refine ratio_read (k := 50) g rfl (is_mean W.there) ?_ ((alive_sm W.tab _).mono (by decide)) (by decide) S
      refine sm_nat (Nat.lt_of_le_of_lt (m := 120 * 1000000000000) ?_ (by decide))
      have bd : ∀ l : List Nat, (l.map fun t => Sd49.alive Tb st (t + 1)).sum ≤ l.length * 1000000000000 := fun l => by
        induction l with
        | nil => simp
        | cons a l ih =>
          rw [List.map_cons, List.sum_cons, List.length_cons, Nat.succ_mul]
          have := alive_le W.tab (s := st) (t := a + 1)
          omega
      have := bd (List.range 120)
      rw [List.length_range] at this
      exact this
end
end LT
end
section
set_option linter.all false
set_option Elab.async false
set_option maxRecDepth 100000
set_option maxHeartbeats 2000000
namespace LT
open PySem PySem.Spec PyProof.Rows L2 LX
abbrev sPayInit : Stmt := inClass (top 16) 0
abbrev sLastT : Stmt := inClass (top 16) 1
abbrev sBegins : Stmt := inClass (top 16) 2
abbrev sEnds : Stmt := inClass (top 16) 3
abbrev sAny : Stmt := inClass (top 16) 4
abbrev sIfT : Stmt := inClass (top 16) 5
abbrev sEndP : Stmt := inClass (top 16) 6
def pf (k m n : Int) : List (Str × V) := putF "years" (.int n) (putF "wait" (.int m) (putF "kind" (.int k) []))
theorem pf_kind (k m n : Int) : (pf k m n).lookup ("kind" : Str) = some (.int k) := by
  unfold pf
  rw [lookup_putF, if_neg (by decide), lookup_putF, if_neg (by decide), lookup_putF, if_pos rfl]
theorem pf_wait (k m n : Int) : (pf k m n).lookup ("wait" : Str) = some (.int m) := by
  unfold pf
  rw [lookup_putF, if_neg (by decide), lookup_putF, if_pos rfl]
theorem pf_years (k m n : Int) : (pf k m n).lookup ("years" : Str) = some (.int n) := by
  unfold pf
  rw [lookup_putF, if_pos rfl]
theorem pf_no (k m n : Int) {x : Str} (h1 : ¬ x = "kind") (h2 : ¬ x = "wait") (h3 : ¬ x = "years") : (pf k m n).lookup x = none := by
  unfold pf
  rw [lookup_putF, if_neg h3, lookup_putF, if_neg h2, lookup_putF, if_neg h1]
  rfl
/-- a Payment at a -/
def PayAt (C : Addr) (H : Hp) (a : Addr) (k m n : Nat) : Prop := ∃ dx, H a = some (.ins C dx (pf (k : Nat) (m : Nat) (n : Nat)))
theorem PayAt.same {C : Addr} {H H' : Hp} {a : Addr} {k m n : Nat} (h : PayAt C H a k m n) (e : Same H H') : PayAt C H' a k m n := by
  obtain ⟨dx, h1⟩ := h
  exact ⟨dx, e _ _ h1⟩
structure TxPay (K : PySem.W.Frag) (mg : Str → Option Value) (C : Addr) : Prop where
  cl : Cls K C
  nK : NoAttr K C "kind"
  nW : NoAttr K C "wait"
  nY : NoAttr K C "years"
  k0 : ∃ t, mg "EACH_BEGINNING" = some (.int 0 t)
  k1 : ∃ t, mg "EACH_END" = some (.int 1 t)
  k2 : ∃ t, mg "AFTER_ALL_YEARS" = some (.int 2 t)
  k3 : ∃ t, mg "FOR_ITS_END" = some (.int 3 t)
  k4 : ∃ t, mg "AFTER_ALL_YEARS_OR_FOR_ITS_END" = some (.int 4 t)
  k5 : ∃ t, mg "RISING_FOR_ITS_END" = some (.int 5 t)
  k6 : ∃ t, mg "IN_ANY_CASE" = some (.int 6 t)
  years : ∃ t, mg "MOST_YEARS" = some (.int 120 t)
def payOk (k m n : Int) : Prop := (0 ≤ k ∧ k ≤ 6) ∧ (0 ≤ m ∧ m ≤ 120) ∧ (0 ≤ n ∧ n ≤ 120)
section
variable {P : Program} {w : World} {K : PySem.W.Frag} {mg : Str → Option Value} {base : Heap}
def spPayInit (K : PySem.W.Frag) (R C : Addr) : Sp := fun vs H Q E => ∃ (H0 : Hp) (p dx : Addr) (k m n : Int), vs = [.ref p, .int k, .int m, .int n] ∧ H p = some (.ins C dx []) ∧ H0 p = none ∧ Same H0 H ∧
  (¬ payOk k m n → RefE K R H0 (-2) E) ∧ (payOk k m n → ∀ H' : Hp, Same H0 H' → PayAt C H' p k.toNat m.toNat n.toNat → Q .non H')
theorem scPayInit : FnScope ["self", "kind", "wait", "years"] ["self", "kind", "wait", "years"] (defScope sPayInit) := ⟨rfl, rfl, rfl, by decide +kernel, rfl, by decide +kernel, by decide +kernel⟩
theorem ok_payInit {f R C : Addr} {fd : FuncData} (F : Fun K "__init__" "Payment.__init__" sPayInit f fd) (T : TxPay K mg C) (GD : GF P w K mg base (CXR P w) "demand_within" 4 psD (spDemand K R)) :
    FnOk P w K mg base (CXR P w) 5 f fd ["self", "kind", "wait", "years"] (spPayInit K R C) := by
  refine F.okX scPayInit (fun vs H Q E h => ?_) (fun cdv A outer s H vs Q E hr h => ?_)
  · obtain ⟨H0, p, dx, k, m, n, rfl, _⟩ := h
    rfl
  · obtain ⟨H0, p, dx, k, m, n, rfl, hp, n0, s0, kE0, kQ⟩ := h
    have kE := fun e => (kE0 e).mono s0
    refine ⟨_, pss_cons (ps_expr (pe_gf GD hr pass_cx (pa_cons (pv 1) (pa_cons (pe_cst rfl T.k0) (pa_cons (pe_cst rfl T.k6) pa_nil)))))
      (pss_cons (ps_expr (pe_gf GD hr pass_cx (pa_cons (pv 2) (pa_cons pe_int (pa_cons (pe_cst rfl T.years) pa_nil)))))
      (pss_cons (ps_expr (pe_gf GD hr pass_cx (pa_cons (pv 3) (pa_cons pe_int (pa_cons (pe_cst rfl T.years) pa_nil)))))
      (pss_cons (ps_fld (pv 0) (pv 1) rfl) (pss_cons (ps_fld (pv 0) (pv 2) rfl) (pss_one (ps_fld (pv 0) (pv 3) rfl)))))), ?_⟩
    refine ⟨_, rfl, k, 0, 6, rfl, fun c1 => ?_, fun c1 => kE fun z => c1 z.1⟩
    refine ⟨_, rfl, m, 0, 120, rfl, fun c2 => ?_, fun c2 => kE fun z => c2 z.2.1⟩
    refine ⟨_, rfl, n, 0, 120, rfl, fun c3 => ?_, fun c3 => kE fun z => c3 z.2.2⟩
    refine ⟨_, rfl, _, rfl, p, C, dx, _, rfl, hp, T.cl, T.nK, (by show 0 < 1000; decide), ?_⟩
    refine ⟨_, rfl, _, rfl, p, C, dx, _, rfl, upd_same, T.cl, T.nW, (by show 1 < 1000; decide), ?_⟩
    refine ⟨_, rfl, _, rfl, p, C, dx, _, rfl, upd_same, T.cl, T.nY, (by show 2 < 1000; decide), ?_⟩
    refine kQ ⟨c1, c2, c3⟩ _ (((s0.put n0).put n0).put n0) ⟨dx, ?_⟩
    have e1 : ((k.toNat : Nat) : Int) = k := by omega
    have e2 : ((m.toNat : Nat) : Int) = m := by omega
    have e3 : ((n.toNat : Nat) : Int) = n := by omega
    rw [e1, e2, e3]
    exact upd_same
/-! ### the times -/
def spLastT (C : Addr) : Sp := fun vs H Q _ => ∃ (p : Addr) (k m n : Nat), vs = [.ref p] ∧ PayAt C H p k m n ∧ Q (.int ((m + n : Nat) : Int)) H
theorem scLastT : FnScope ["self"] ["self"] (defScope sLastT) := ⟨rfl, rfl, rfl, by decide +kernel, rfl, by decide +kernel, by decide +kernel⟩
theorem ok_lastT {f C : Addr} {fd : FuncData} (F : Fun K "last_time" "Payment.last_time" sLastT f fd) (T : TxPay K mg C) : FnOk P w K mg base CX0 1 f fd ["self"] (spLastT C) := by
  refine F.ok scLastT (fun vs H Q E h => ?_) (fun cdv A outer s H vs Q E hr h => ?_)
  · obtain ⟨p, k, m, n, rfl, _⟩ := h
    rfl
  · obtain ⟨p, k, m, n, rfl, ⟨dx, hp⟩, q⟩ := h
    refine ⟨_, pss_one (ps_ret (pe_op op_add (pe_fld (pv 0) rfl) (pe_fld (pv 0) rfl))), ?_⟩
    exact ⟨_, rfl, p, C, dx, _, _, rfl, hp, T.cl, T.nW, pf_wait _ _ _, _, rfl, p, C, dx, _, _, rfl, hp, T.cl, T.nY, pf_years _ _ _, _, _, rfl, rfl, q⟩
def spBegins (C : Addr) : Sp := fun vs H Q _ => ∃ (p : Addr) (k m n t : Nat), vs = [.ref p, .int (t : Nat)] ∧ PayAt C H p k m n ∧ Q (.bl (decide (m ≤ t ∧ t < m + n))) H
theorem scBegins : FnScope ["self", "when"] ["self", "when"] (defScope sBegins) := ⟨rfl, rfl, rfl, by decide +kernel, rfl, by decide +kernel, by decide +kernel⟩
theorem ok_begins {f C : Addr} {fd : FuncData} (F : Fun K "begins_year" "Payment.begins_year" sBegins f fd) (T : TxPay K mg C) (GL : GM P w K mg base CX0 C "last_time" 1 ["self"] (spLastT C)) : FnOk P w K mg base CX0 2 f fd ["self", "when"] (spBegins C) := by
  refine F.ok scBegins (fun vs H Q E h => ?_) (fun cdv A outer s H vs Q E hr h => ?_)
  · obtain ⟨p, k, m, n, t, rfl, _⟩ := h
    rfl
  · obtain ⟨p, k, m, n, t, rfl, hP, q⟩ := h
    obtain ⟨dx, hp⟩ := id hP
    refine ⟨_, pss_one (ps_ret (pe_and (pe_cmpR op_le (pe_fld (pv 0) rfl) (pv 1) (nomark _)) (pe_one (pe_cmpR op_lt (pv 1) (pe_gm0 (pv 0) T.cl GL hr pass0) (nomark _))))), ?_⟩
    refine ⟨_, rfl, p, C, dx, _, _, rfl, hp, T.cl, T.nW, pf_wait _ _ _, _, rfl, _, _, rfl, rfl, _, rfl, ?_⟩
    by_cases h1 : ((m : Nat) : Int) ≤ ((t : Nat) : Int)
    · rw [decide_eq_true h1]
      refine iteT ⟨_, rfl, _, rfl, p, dx, _, rfl, hp, pf_no _ _ _ (by decide +kernel) (by decide +kernel) (by decide +kernel), p, k, m, n, rfl, hP, _, _, rfl, rfl, ?_⟩
      have e : decide (m ≤ t ∧ t < m + n) = decide (((t : Nat) : Int) < ((m + n : Nat) : Int)) := decide_eq_decide.mpr (by omega)
      rw [e] at q
      exact q
    · rw [decide_eq_false h1]
      refine iteF ?_
      have e : decide (m ≤ t ∧ t < m + n) = false := decide_eq_false (by omega)
      rw [e] at q
      exact q
def spEnds (C : Addr) : Sp := fun vs H Q _ => ∃ (p : Addr) (k m n t : Nat), vs = [.ref p, .int (t : Nat)] ∧ PayAt C H p k m n ∧ Q (.bl (decide (m < t ∧ t ≤ m + n))) H
theorem scEnds : FnScope ["self", "when"] ["self", "when"] (defScope sEnds) := ⟨rfl, rfl, rfl, by decide +kernel, rfl, by decide +kernel, by decide +kernel⟩
theorem ok_ends {f C : Addr} {fd : FuncData} (F : Fun K "ends_year" "Payment.ends_year" sEnds f fd) (T : TxPay K mg C) (GL : GM P w K mg base CX0 C "last_time" 1 ["self"] (spLastT C)) : FnOk P w K mg base CX0 2 f fd ["self", "when"] (spEnds C) := by
  refine F.ok scEnds (fun vs H Q E h => ?_) (fun cdv A outer s H vs Q E hr h => ?_)
  · obtain ⟨p, k, m, n, t, rfl, _⟩ := h
    rfl
  · obtain ⟨p, k, m, n, t, rfl, hP, q⟩ := h
    obtain ⟨dx, hp⟩ := id hP
    refine ⟨_, pss_one (ps_ret (pe_and (pe_cmpR op_lt (pe_fld (pv 0) rfl) (pv 1) (nomark _)) (pe_one (pe_cmpR op_le (pv 1) (pe_gm0 (pv 0) T.cl GL hr pass0) (nomark _))))), ?_⟩
    refine ⟨_, rfl, p, C, dx, _, _, rfl, hp, T.cl, T.nW, pf_wait _ _ _, _, rfl, _, _, rfl, rfl, _, rfl, ?_⟩
    by_cases h1 : ((m : Nat) : Int) < ((t : Nat) : Int)
    · rw [decide_eq_true h1]
      refine iteT ⟨_, rfl, _, rfl, p, dx, _, rfl, hp, pf_no _ _ _ (by decide +kernel) (by decide +kernel) (by decide +kernel), p, k, m, n, rfl, hP, _, _, rfl, rfl, ?_⟩
      have e : decide (m < t ∧ t ≤ m + n) = decide (((t : Nat) : Int) ≤ ((m + n : Nat) : Int)) := decide_eq_decide.mpr (by omega)
      rw [e] at q
      exact q
    · rw [decide_eq_false h1]
      refine iteF ?_
      have e : decide (m < t ∧ t ≤ m + n) = false := decide_eq_false (by omega)
      rw [e] at q
      exact q
/-! ### what is paid -/
def spAny (C : Addr) : Sp := fun vs H Q _ => ∃ (p : Addr) (k m n t : Nat), vs = [.ref p, .int (t : Nat)] ∧ PayAt C H p k m n ∧ Q (.int ((anyC k m n t : Nat) : Int)) H
theorem scAny : FnScope ["self", "when"] ["self", "when"] (defScope sAny) := ⟨rfl, rfl, rfl, by decide +kernel, rfl, by decide +kernel, by decide +kernel⟩
theorem ok_any {f C : Addr} {fd : FuncData} (F : Fun K "in_any_case" "Payment.in_any_case" sAny f fd) (T : TxPay K mg C) (GB : GM P w K mg base CX0 C "begins_year" 2 ["self", "when"] (spBegins C)) : FnOk P w K mg base CX0 3 f fd ["self", "when"] (spAny C) := by
  refine F.ok scAny (fun vs H Q E h => ?_) (fun cdv A outer s H vs Q E hr h => ?_)
  · obtain ⟨p, k, m, n, t, rfl, _⟩ := h
    rfl
  · obtain ⟨p, k, m, n, t, rfl, hP, q⟩ := h
    obtain ⟨dx, hp⟩ := id hP
    refine ⟨_, pss_cons (ps_if (PW.pt (pw_and (pt_cmpR op_eq (pe_fld (pv 0) rfl) (pe_cst rfl T.k6) (nomark _)) (pw_and1 (pt_val (pe_gm (pv 0) T.cl GB hr pass0 (pa_cons (pv 1) pa_nil)))))) (pss_one (ps_ret pe_int)) pss_nil) (pss_one (ps_ret pe_int)), ?_⟩
    unfold anyC at q
    refine ⟨_, rfl, p, C, dx, _, _, rfl, hp, T.cl, T.nK, pf_kind _ _ _, rfl, _, rfl, ?_⟩
    by_cases h6 : k = 6
    · rw [decide_eq_true (by rw [h6]; rfl)]
      refine iteT ⟨_, rfl, p, dx, _, rfl, hp, pf_no _ _ _ (by decide +kernel) (by decide +kernel) (by decide +kernel), _, rfl, p, k, m, n, t, rfl, hP, _, rfl, ?_⟩
      by_cases h1 : m ≤ t ∧ t < m + n
      · rw [decide_eq_true h1]
        rw [if_pos ⟨h6, h1⟩] at q
        exact iteT q
      · rw [decide_eq_false h1]
        rw [if_neg (fun z => h1 z.2)] at q
        exact iteF q
    · rw [decide_eq_false (fun z => h6 (by injection z with z; omega))]
      rw [if_neg (fun z => h6 z.1)] at q
      exact iteF (iteF q)
theorem inV_two (k : Nat) (a b : Int) : inV (.int (k : Nat)) [.int a, .int b] = decide ((k : Int) = a ∨ (k : Int) = b) := by
  have h1 : ∀ c : Int, eqV (.int c) (.int (k : Nat)) = decide ((k : Int) = c) := fun c => by
    show (c == ((k : Nat) : Int)) = _
    rw [Bool.eq_iff_iff]
    simp
    omega
  unfold inV
  rw [List.any_cons, List.any_cons, List.any_nil, h1, h1]
  simp
def spIfT (C : Addr) : Sp := fun vs H Q _ => ∃ (p : Addr) (k m n t : Nat), vs = [.ref p, .int (t : Nat)] ∧ PayAt C H p k m n ∧ ∀ H', Same H H' → Q (.int ((ifT k m n t : Nat) : Int)) H'
theorem scIfT : FnScope ["self", "when", "due"] ["self", "when"] (defScope sIfT) := ⟨rfl, rfl, rfl, by decide +kernel, rfl, by decide +kernel, by decide +kernel⟩
theorem ok_ifT {f C : Addr} {fd : FuncData} (F : Fun K "if_there" "Payment.if_there" sIfT f fd) (T : TxPay K mg C) (GL : GM P w K mg base CX0 C "last_time" 1 ["self"] (spLastT C)) (GB : GM P w K mg base CX0 C "begins_year" 2 ["self", "when"] (spBegins C))
    (GE : GM P w K mg base CX0 C "ends_year" 2 ["self", "when"] (spEnds C)) : FnOk P w K mg base CX0 3 f fd ["self", "when"] (spIfT C) := by
  refine F.ok scIfT (fun vs H Q E h => ?_) (fun cdv A outer s H vs Q E hr h => ?_)
  · obtain ⟨p, k, m, n, t, rfl, _⟩ := h
    rfl
  · obtain ⟨p, k, m, n, t, rfl, hP, q⟩ := h
    obtain ⟨dx, hp⟩ := id hP
    have no : ∀ {x : Str}, ¬ x = "kind" → ¬ x = "wait" → ¬ x = "years" → (pf (k : Nat) (m : Nat) (n : Nat)).lookup x = none := fun h1 h2 h3 => pf_no _ _ _ h1 h2 h3
    refine ⟨_, pss_cut (ps_if (pt_cmpR op_eq (pe_fld (pv 0) rfl) (pe_cst rfl T.k0) (nomark _)) (pss_one (ps_set (i := 2) scIfT.nd rfl (Or.inl rfl) (pe_gm (pv 0) T.cl GB hr pass0 (pa_cons (pv 1) pa_nil))))
        (pss_one (ps_if (pt_cmpR op_eq (pe_fld (pv 0) rfl) (pe_cst rfl T.k1) (nomark _)) (pss_one (ps_set (i := 2) scIfT.nd rfl (Or.inl rfl) (pe_gm (pv 0) T.cl GE hr pass0 (pa_cons (pv 1) pa_nil))))
          (pss_one (ps_if (pt_cmpR op_in_seq (pe_fld (pv 0) rfl) (pe_tup (pa_cons (pe_cst rfl T.k2) (pa_cons (pe_cst rfl T.k4) pa_nil))) (by with_unfolding_all rfl))
            (pss_one (ps_set (i := 2) scIfT.nd rfl (Or.inl rfl) (pe_cmpR op_eq (pv 1) (pe_gm0 (pv 0) T.cl GL hr pass0) (nomark _))))
            (pss_one (ps_set (i := 2) scIfT.nd rfl (Or.inl rfl) pe_bl)))))))
      (pss_one (ps_ret (pe_ifExp (pt_val (pv 2)) pe_int pe_int))), ?_⟩
    refine ⟨fun σ' H' => ∃ b : Bool, σ' = [some (.ref p), some (.int (t : Nat)), some (.bl b)] ∧ Same H H' ∧ ifT k m n t = (if b = true then 1 else 0), ?_, ?_⟩
    · refine ⟨_, rfl, p, C, dx, _, _, rfl, hp, T.cl, T.nK, pf_kind _ _ _, rfl, _, rfl, ?_⟩
      by_cases h0 : k = 0
      · rw [decide_eq_true (by rw [h0]; rfl)]
        refine iteT ⟨_, rfl, p, dx, _, rfl, hp, no (by decide +kernel) (by decide +kernel) (by decide +kernel), _, rfl, p, k, m, n, t, rfl, hP, _, rfl, fun _ _ e => e, ?_⟩
        unfold ifT
        rw [if_pos h0]
        simp
      · rw [decide_eq_false (fun z => h0 (by injection z with z; omega))]
        refine iteF ⟨_, rfl, p, C, dx, _, _, rfl, hp, T.cl, T.nK, pf_kind _ _ _, rfl, _, rfl, ?_⟩
        by_cases h1 : k = 1
        · rw [decide_eq_true (by rw [h1]; rfl)]
          refine iteT ⟨_, rfl, p, dx, _, rfl, hp, no (by decide +kernel) (by decide +kernel) (by decide +kernel), _, rfl, p, k, m, n, t, rfl, hP, _, rfl, fun _ _ e => e, ?_⟩
          unfold ifT
          rw [if_neg h0, if_pos h1]
          simp
        · rw [decide_eq_false (fun z => h1 (by injection z with z; omega))]
          refine iteF ⟨_, rfl, p, C, dx, _, _, rfl, hp, T.cl, T.nK, pf_kind _ _ _, (by show 2 ≤ sizeLine; decide), fun a ha => ⟨a, _, rfl, .inr (SqT.of upd_same), rfl, rfl, _, rfl, ?_⟩⟩
          have S : Same H (upd H a (.tup [.int 2, .int 4])) := Same.lay ha
          rw [if_neg (by decide : ¬ (false = true)), inV_two]
          by_cases h2 : k = 2 ∨ k = 4
          · rw [decide_eq_true (by omega)]
            refine iteT ⟨_, rfl, _, rfl, p, dx, _, rfl, S _ _ hp, no (by decide +kernel) (by decide +kernel) (by decide +kernel), p, k, m, n, rfl, hP.same S, rfl, _, rfl, S, ?_⟩
            unfold ifT
            rw [if_neg h0, if_neg h1, if_pos h2]
            by_cases z : t = m + n
            · rw [if_pos z, decide_eq_true (by rw [z])]
              rfl
            · rw [if_neg z, decide_eq_false (fun y => z (by injection y with y; omega))]
              rfl
          · rw [decide_eq_false (by omega)]
            refine iteF ⟨false, rfl, S, ?_⟩
            unfold ifT
            rw [if_neg h0, if_neg h1, if_neg h2]
            rfl
    · rintro σ' H' ⟨b, rfl, S, e⟩
      have q' := q H' S
      rw [e] at q'
      refine ⟨_, rfl, _, rfl, ?_⟩
      cases b with
      | true => exact iteT q'
      | false => exact iteF q'
def spEndP (C : Addr) : Sp := fun vs H Q _ => ∃ (p : Addr) (k m n t : Nat), vs = [.ref p, .int (t : Nat)] ∧ PayAt C H p k m n ∧ ∀ H', Same H H' → Q (.int ((endP k m n t : Nat) : Int)) H'
theorem scEndP : FnScope ["self", "when"] ["self", "when"] (defScope sEndP) := ⟨rfl, rfl, rfl, by decide +kernel, rfl, by decide +kernel, by decide +kernel⟩
theorem ok_endP {f C : Addr} {fd : FuncData} (F : Fun K "for_its_end" "Payment.for_its_end" sEndP f fd) (T : TxPay K mg C) (GE : GM P w K mg base CX0 C "ends_year" 2 ["self", "when"] (spEnds C)) : FnOk P w K mg base CX0 3 f fd ["self", "when"] (spEndP C) := by
  refine F.ok scEndP (fun vs H Q E h => ?_) (fun cdv A outer s H vs Q E hr h => ?_)
  · obtain ⟨p, k, m, n, t, rfl, _⟩ := h
    rfl
  · obtain ⟨p, k, m, n, t, rfl, hP, q⟩ := h
    obtain ⟨dx, hp⟩ := id hP
    have no : ∀ {x : Str}, ¬ x = "kind" → ¬ x = "wait" → ¬ x = "years" → (pf (k : Nat) (m : Nat) (n : Nat)).lookup x = none := fun h1 h2 h3 => pf_no _ _ _ h1 h2 h3
    refine ⟨_, pss_cons (ps_if (pt_not (pt_val (pe_gm (pv 0) T.cl GE hr pass0 (pa_cons (pv 1) pa_nil)))) (pss_one (ps_ret pe_int)) pss_nil)
      (pss_cons (ps_if (pt_cmpR op_eq (pe_fld (pv 0) rfl) (pe_cst rfl T.k5) (nomark _)) (pss_one (ps_ret (pe_op op_sub (pv 1) (pe_fld (pv 0) rfl)))) pss_nil)
      (pss_cons (ps_if (pt_cmpR op_in_seq (pe_fld (pv 0) rfl) (pe_tup (pa_cons (pe_cst rfl T.k3) (pa_cons (pe_cst rfl T.k4) pa_nil))) (by with_unfolding_all rfl)) (pss_one (ps_ret pe_int)) pss_nil)
      (pss_one (ps_ret pe_int)))), ?_⟩
    have q0 := q H (fun _ _ e => e)
    unfold endP at q q0
    refine ⟨_, rfl, p, dx, _, rfl, hp, no (by decide +kernel) (by decide +kernel) (by decide +kernel), _, rfl, p, k, m, n, t, rfl, hP, _, rfl, ?_⟩
    by_cases h1 : m < t ∧ t ≤ m + n
    · rw [decide_eq_true h1]
      rw [if_pos h1] at q q0
      refine iteF ⟨_, rfl, p, C, dx, _, _, rfl, hp, T.cl, T.nK, pf_kind _ _ _, rfl, _, rfl, ?_⟩
      by_cases h5 : k = 5
      · rw [decide_eq_true (by rw [h5]; rfl)]
        rw [if_pos h5] at q0
        refine iteT ⟨_, rfl, _, rfl, p, C, dx, _, _, rfl, hp, T.cl, T.nW, pf_wait _ _ _, _, _, rfl, rfl, ?_⟩
        have e : ((t - m : Nat) : Int) = (t : Int) - (m : Int) := by omega
        rw [e] at q0
        exact q0
      · rw [decide_eq_false (fun z => h5 (by injection z with z; omega))]
        rw [if_neg h5] at q
        refine iteF ⟨_, rfl, p, C, dx, _, _, rfl, hp, T.cl, T.nK, pf_kind _ _ _, (by show 2 ≤ sizeLine; decide), fun a ha => ⟨a, _, rfl, .inr (SqT.of upd_same), rfl, rfl, _, rfl, ?_⟩⟩
        have S : Same H (upd H a (.tup [.int 3, .int 4])) := Same.lay ha
        have q1 := q _ S
        rw [if_neg (by decide : ¬ (false = true)), inV_two]
        by_cases h2 : k = 3 ∨ k = 4
        · rw [decide_eq_true (by omega)]
          rw [if_pos h2] at q1
          exact iteT q1
        · rw [decide_eq_false (by omega)]
          rw [if_neg h2] at q1
          exact iteF q1
    · rw [decide_eq_false h1]
      rw [if_neg h1] at q0
      exact iteT q0
end
end LT
end
section
set_option linter.all false
set_option Elab.async false
set_option maxRecDepth 100000
set_option maxHeartbeats 2000000
namespace LT
open PySem PySem.Spec PyProof.Rows L2 LX
abbrev sScales : Stmt := top 25
abbrev sCert : Stmt := top 26
abbrev sUnc : Stmt := top 27
abbrev sLastPaid : Stmt := top 24
/-! ### lists by time -/
def tab (f : Nat → Nat) : List V := (List.range 242).map fun t => V.int ((f t : Nat) : Int)
theorem tab_len (f : Nat → Nat) : (tab f).length = 242 := by
  unfold tab
  rw [List.length_map, List.length_range]
theorem tab_get (f : Nat → Nat) {t : Nat} (h : t < 242) : (tab f)[t]? = some (.int ((f t : Nat) : Int)) := by
  unfold tab
  rw [List.getElem?_map, List.getElem?_range h]
  rfl
theorem tab_set (f : Nat → Nat) (t v : Nat) : (tab f).set t (.int (v : Nat)) = tab (fun u => if u = t then v else f u) := by
  apply List.ext_getElem?
  intro i
  by_cases hi : i < 242
  · rw [tab_get _ hi]
    by_cases e : i = t
    · subst e
      rw [List.getElem?_set_self (by rw [tab_len]; exact hi), if_pos rfl]
    · rw [List.getElem?_set_ne (fun q => e q.symm), tab_get _ hi, if_neg e]
  · rw [List.getElem?_eq_none (by rw [List.length_set, tab_len]; omega), List.getElem?_eq_none (by rw [tab_len]; omega)]
theorem tab_rep (v : Nat) : (List.replicate 242 [V.int (v : Nat)]).flatten = tab (fun _ => v) := by
  unfold tab
  rw [List.map_const', List.length_range]
  simp
theorem tab_at (f : Nat → Nat) {z : Int} {t : Nat} (e : z = (t : Int)) (h : t < 242) : atI (tab f) z = some (.int ((f t : Nat) : Int)) := at_of e (tab_get f h)
theorem ixN_nat {n t : Nat} (h : t < n) : ixN n (t : Int) = some t := by
  unfold ixN
  rw [if_pos (by omega), if_pos (by omega)]
  simp
theorem tab_ix (f : Nat → Nat) {t : Nat} (h : t < 242) : ixN (tab f).length (t : Int) = some t := by
  rw [tab_len]
  exact ixN_nat h
structure TxPro (mg : Str → Option Value) : Prop where
  times : ∃ t, mg "TIMES" = some (.int 242 t)
  range : mg "range" = none
  min : mg "min" = none
section
variable {P : Program} {w : World} {K : PySem.W.Frag} {mg : Str → Option Value} {base : Heap}
/-! ### scales_of -/
def scF (W L : Nat) : Nat → Nat := fun t => W ^ (L - t)
def spScales (CR : Addr) : Sp := fun vs H Q _ => ∃ (r dr : Addr) (u d L : Nat), vs = [.ref r, .int (L : Nat)] ∧ H r = some (.ins CR dr (rf (u : Nat) (d : Nat))) ∧ 1 ≤ u + d ∧ u + d ≤ 2000 ∧ L ≤ 240 ∧
  ∀ (H' : Hp) (q : Addr), Same H H' → H' q = some (.lst (tab (scF (u + d) L))) → Q (.ref q) H'
theorem scScales : FnScope ["rate", "last", "scales", "when"] ["rate", "last"] (defScope sScales) := ⟨rfl, rfl, rfl, by decide +kernel, rfl, by decide +kernel, by decide +kernel⟩
theorem down_rg (L : Nat) (h : L ≤ 240) : RgC ((L : Int) - 1) (-1) (-1) L := by
  have := RgC.neg (i := (L : Int) - 1) (j := -1) (by omega) (by omega) (by decide) (by decide)
  have e : ((L : Int) - 1 - -1).toNat = L := by omega
  rw [e] at this
  exact this
theorem ok_scales {f CR : Addr} {fd : FuncData} (F : Fun K "scales_of" "scales_of" sScales f fd) (T : TxPro mg) (TR : TxRatio K CR) : FnOk P w K mg base CX0 1 f fd ["rate", "last"] (spScales CR) := by
  refine F.ok scScales (fun vs H Q E h => ?_) (fun cdv A outer s H vs Q E hr h => ?_)
  · obtain ⟨r, dr, u, d, L, rfl, _⟩ := h
    rfl
  · obtain ⟨r, dr, u, d, L, rfl, hR, w1, w2, hL, k⟩ := h
    refine ⟨_, pss_cons (ps_set (i := 2) scScales.nd rfl (Or.inl rfl) (pe_op op_rep (pe_lst (pa_cons pe_int pa_nil)) (pe_cst rfl T.times)))
      (pss_cons (ps_for PassesOwn.never rfl (pi_range3 rfl T.range (pa_cons (pe_op op_sub (pv 1) pe_int) (pa_cons (pe_un un_neg pe_int) (pa_cons (pe_un un_neg pe_int) pa_nil)))) (pg_name (i := 3) scScales.nd rfl (Or.inl rfl))
        (pss_one (ps_asg (pe_op op_mulF (pe_ix ix_list (pv 2) (pe_op op_add (pv 3) pe_int) (fun _ _ => rfl)) (pe_op op_add (pe_fld (pv 0) rfl) (pe_fld (pv 0) rfl))) (pg_sub (pv 2) (pv 3) set_list))))
      (pss_one (ps_ret (pv 2)))), ?_⟩
    refine ⟨(by show 1 ≤ sizeLine; decide), fun l0 hl0 => ⟨l0, 242, _, rfl, rfl, upd_same, by decide, by decide, (by rw [sizeLine_eq]; decide), fun q hq => ?_⟩⟩
    have nq : H q = none := by
      by_cases e : q = l0
      · rw [e]
        exact hl0
      · rw [upd_ne e] at hq
        exact hq
    have S1 : Same H (upd (upd H l0 (.lst [.int 1])) q (.lst (tab fun _ => 1))) := (Same.lay hl0).trans (Same.lay hq)
    refine ⟨_, rfl, _, _, rfl, rfl, _, rfl, _, rfl, (L : Int) - 1, -1, -1, L, rfl, down_rg L hL, for_rangeC (fun i σ H' => ∃ v : Option V, σ = [some (.ref r), some (.int (L : Nat)), some (.ref q), v] ∧ Same H H' ∧ H' q = some (.lst (tab fun t => if L ≤ t + i then (u + d) ^ (L - t) else 1)))
      ⟨none, rfl, ?_, ?_⟩ ?_ ?_⟩
    · have := S1
      rw [← tab_rep 1] at this
      exact this
    · have e : (tab fun t => if L ≤ t + 0 then (u + d) ^ (L - t) else 1) = tab fun _ => 1 := congrArg tab (funext fun t => by
        split
        · rw [show L - t = 0 by omega, Nat.pow_zero]
        · rfl)
      rw [e, ← tab_rep 1]
      exact upd_same
    · rintro i σ H' hi ⟨v, rfl, S, hq'⟩
      rw [show (L : Int) - 1 + ((i : Nat) : Int) * -1 = ((L - 1 - i : Nat) : Int) by omega]
      have hg : atI (tab fun t => if L ≤ t + i then (u + d) ^ (L - t) else 1) (((L - 1 - i : Nat) : Int) + 1) = some (.int (((u + d) ^ i : Nat) : Int)) := by
        have := tab_at (fun t => if L ≤ t + i then (u + d) ^ (L - t) else 1) (z := ((L - 1 - i : Nat) : Int) + 1) (t := L - i) (by omega) (by omega)
        try dsimp only at this
        rw [if_pos (by omega), show L - (L - i) = i by omega] at this
        exact this
      refine ⟨_, rfl, _, rfl, _, _, rfl, rfl, q, _, _, _, rfl, rfl, SqL.of hq', hg, _, rfl, r, CR, dr, _, _, rfl, S _ _ hR, TR.cl, TR.nT, rf_top _ _, _, rfl, r, CR, dr, _, _, rfl, S _ _ hR, TR.cl, TR.nB, rf_bottom _ _, _, _, rfl, rfl, _, _, rfl, rfl, ⟨(scale_sm w1 w2 (by omega)).fits, ?_⟩, ?_⟩
      · exact (sm_nat (a := 11) (n := u + d) (by show _ < 2048; omega)).fits
      refine ⟨_, rfl, _, rfl, q, _, _, L - 1 - i, rfl, rfl, hq', tab_ix _ (by omega), ?_⟩
      refine ⟨_, rfl, S.put nq, ?_⟩
      rw [upd_same]
      have ev : (((u + d) ^ i : Nat) : Int) * (((u : Nat) : Int) + ((d : Nat) : Int)) = (((u + d) ^ (i + 1) : Nat) : Int) := by
        rw [Nat.pow_succ]
        push_cast
        rfl
      try dsimp only
      rw [ev, tab_set]
      congr 3
      funext t
      by_cases e : t = L - 1 - i
      · rw [if_pos e, if_pos (by omega), show L - t = i + 1 by omega]
      · rw [if_neg e]
        by_cases e2 : L ≤ t + i
        · rw [if_pos e2, if_pos (by omega)]
        · rw [if_neg e2, if_neg (by omega)]
    · rintro σ H' ⟨v, rfl, S, hq'⟩
      refine ⟨_, rfl, k H' q S ?_⟩
      rw [hq']
      congr 3
      funext t
      rw [if_pos (by omega)]
      rfl
/-! ### certain_parts -/
def cerF (W d L k m n : Nat) : Nat → Nat := fun t => cer W d L (anyC k m n) (L + 1 - t)
theorem scF_sm {u d L t : Nat} (w1 : 1 ≤ u + d) (w2 : u + d ≤ 2000) (hL : L ≤ 240) : Sm 2680 ((scF (u + d) L t : Nat) : Int) := scale_sm w1 w2 (by omega)
def spCert (CR CP : Addr) : Sp := fun vs H Q _ => ∃ (r dr a sc : Addr) (T : Sd49.Table) (L k m n : Nat), vs = [.ref r, .ref a, .ref sc, .int (L : Nat)] ∧ H r = some (.ins CR dr (rf (T.up : Nat) (T.down : Nat))) ∧ WfT T ∧ PayAt CP H a k m n ∧ H sc = some (.lst (tab (scF (T.up + T.down) L))) ∧ L ≤ 240 ∧
  ∀ (H' : Hp) (q : Addr), Same H H' → H' q = some (.lst (tab (cerF (T.up + T.down) T.down L k m n))) → Q (.ref q) H'
theorem scCert : FnScope ["rate", "payment", "scales", "last", "parts", "when"] ["rate", "payment", "scales", "last"] (defScope sCert) := ⟨rfl, rfl, rfl, by decide +kernel, rfl, by decide +kernel, by decide +kernel⟩
theorem down_rg0 (L : Nat) (h : L ≤ 240) : RgC (L : Int) (-1) (-1) (L + 1) := by
  have := RgC.neg (i := (L : Int)) (j := -1) (by omega) (by omega) (by decide) (by decide)
  have e : ((L : Int) - -1).toNat = L + 1 := by omega
  rw [e] at this
  exact this
theorem ok_cert {f CR CP : Addr} {fd : FuncData} (F : Fun K "certain_parts" "certain_parts" sCert f fd) (T : TxPro mg) (TR : TxRatio K CR) (TP : TxPay K mg CP) (GA : GM P w K mg base CX0 CP "in_any_case" 3 ["self", "when"] (spAny CP)) :
    FnOk P w K mg base CX0 4 f fd ["rate", "payment", "scales", "last"] (spCert CR CP) := by
  refine F.ok scCert (fun vs H Q E h => ?_) (fun cdv A outer s H vs Q E hr h => ?_)
  · obtain ⟨r, dr, a, sc, T, L, k, m, n, rfl, _⟩ := h
    rfl
  · obtain ⟨r, dr, a, sc, Tb, L, k, m, n, rfl, hR, W, hP, hsc, hL, kQ⟩ := h
    obtain ⟨da, ha⟩ := id hP
    have u1 := W.up
    have u2 := W.down
    have w1 : 1 ≤ Tb.up + Tb.down := by omega
    have w2 : Tb.up + Tb.down ≤ 2000 := by omega
    refine ⟨_, pss_cons (ps_set (i := 4) scCert.nd rfl (Or.inl rfl) (pe_op op_rep (pe_lst (pa_cons pe_int pa_nil)) (pe_cst rfl T.times)))
      (pss_cons (ps_for PassesOwn.never rfl (pi_range3 rfl T.range (pa_cons (pv 3) (pa_cons (pe_un un_neg pe_int) (pa_cons (pe_un un_neg pe_int) pa_nil)))) (pg_name (i := 5) scCert.nd rfl (Or.inl rfl))
        (pss_one (ps_asg (pe_op op_add (pe_op op_mulF (pe_gm (pv 1) TP.cl GA hr pass0 (pa_cons (pv 5) pa_nil)) (pe_ix ix_list (pv 2) (pv 5) (fun _ _ => rfl))) (pe_op op_mulF (pe_ix ix_list (pv 4) (pe_op op_add (pv 5) pe_int) (fun _ _ => rfl)) (pe_fld (pv 0) rfl))) (pg_sub (pv 4) (pv 5) set_list))))
      (pss_one (ps_ret (pv 4)))), ?_⟩
    refine ⟨(by show 1 ≤ sizeLine; decide), fun l0 hl0 => ⟨l0, 242, _, rfl, rfl, upd_same, by decide, by decide, (by rw [sizeLine_eq]; decide), fun q hq => ?_⟩⟩
    have nq : H q = none := by
      by_cases e : q = l0
      · rw [e]
        exact hl0
      · rw [upd_ne e] at hq
        exact hq
    have S1 : Same H (upd (upd H l0 (.lst [.int 0])) q (.lst (tab fun _ => 0))) := (Same.lay hl0).trans (Same.lay hq)
    refine ⟨_, rfl, _, rfl, _, rfl, (L : Int), -1, -1, L + 1, rfl, down_rg0 L hL, for_rangeC (fun i σ H' => ∃ v : Option V, σ = [some (.ref r), some (.ref a), some (.ref sc), some (.int (L : Nat)), some (.ref q), v] ∧ Same H H' ∧ H' q = some (.lst (tab fun t => if L + 1 ≤ t + i then cerF (Tb.up + Tb.down) Tb.down L k m n t else 0)))
      ⟨none, rfl, ?_, ?_⟩ ?_ ?_⟩
    · have := S1
      rw [← tab_rep 0] at this
      exact this
    · have e : (tab fun t => if L + 1 ≤ t + 0 then cerF (Tb.up + Tb.down) Tb.down L k m n t else 0) = tab fun _ => 0 := congrArg tab (funext fun t => by
        split
        · unfold cerF
          rw [show L + 1 - t = 0 by omega]
          rfl
        · rfl)
      rw [e, ← tab_rep 0]
      exact upd_same
    · rintro i σ H' hi ⟨v, rfl, S, hq'⟩
      rw [show (L : Int) + ((i : Nat) : Int) * -1 = ((L - i : Nat) : Int) by omega]
      have hg : atI (tab fun t => if L + 1 ≤ t + i then cerF (Tb.up + Tb.down) Tb.down L k m n t else 0) (((L - i : Nat) : Int) + 1) = some (.int ((cer (Tb.up + Tb.down) Tb.down L (anyC k m n) i : Nat) : Int)) := by
        have := tab_at (fun t => if L + 1 ≤ t + i then cerF (Tb.up + Tb.down) Tb.down L k m n t else 0) (z := ((L - i : Nat) : Int) + 1) (t := L - i + 1) (by omega) (by omega)
        try dsimp only at this
        rw [if_pos (by omega)] at this
        unfold cerF at this
        rw [show L + 1 - (L - i + 1) = i by omega] at this
        exact this
      have hs : atI (tab (scF (Tb.up + Tb.down) L)) ((L - i : Nat) : Int) = some (.int (((Tb.up + Tb.down) ^ i : Nat) : Int)) := by
        have := tab_at (scF (Tb.up + Tb.down) L) (z := ((L - i : Nat) : Int)) (t := L - i) rfl (by omega)
        unfold scF at this
        rw [show L - (L - i) = i by omega] at this
        exact this
      refine ⟨_, rfl, a, da, _, rfl, S _ _ ha, pf_no _ _ _ (by decide +kernel) (by decide +kernel) (by decide +kernel), _, rfl, a, k, m, n, L - i, rfl, hP.same S, _, rfl, _, rfl, sc, _, _, _, rfl, rfl, SqL.of (S _ _ hsc), hs, _, _, rfl, rfl, ⟨(sm_nat (a := 1) ?_).fits, (scale_sm w1 w2 (by omega)).fits⟩,
        _, rfl, _, rfl, _, _, rfl, rfl, q, _, _, _, rfl, rfl, SqL.of hq', hg, _, rfl, r, CR, dr, _, _, rfl, S _ _ hR, TR.cl, TR.nB, rf_bottom _ _, _, _, rfl, rfl, ⟨(cer_sm W (fun t => anyC_le k m n t) (by omega)).fits, (sm_nat (a := 10) ?_).fits⟩, _, _, rfl, rfl, ?_⟩
      · have := anyC_le k m n (L - i)
        show _ < 2
        omega
      · show _ < 1024
        omega
      refine ⟨_, rfl, _, rfl, q, _, _, L - i, rfl, rfl, hq', tab_ix _ (by omega), ?_⟩
      refine ⟨_, rfl, S.put nq, ?_⟩
      rw [upd_same]
      have ev : ((anyC k m n (L - i) : Nat) : Int) * (((Tb.up + Tb.down) ^ i : Nat) : Int) + ((cer (Tb.up + Tb.down) Tb.down L (anyC k m n) i : Nat) : Int) * ((Tb.down : Nat) : Int) = ((cer (Tb.up + Tb.down) Tb.down L (anyC k m n) (i + 1) : Nat) : Int) := by
        rw [cer, Int.natCast_add, Int.natCast_mul, Int.natCast_mul]
      try dsimp only
      rw [ev, tab_set]
      congr 3
      funext t
      by_cases e : t = L - i
      · rw [if_pos e, if_pos (by omega)]
        unfold cerF
        rw [show L + 1 - t = i + 1 by omega]
      · rw [if_neg e]
        by_cases e2 : L + 1 ≤ t + i
        · rw [if_pos e2, if_pos (by omega)]
        · rw [if_neg e2, if_neg (by omega)]
    · rintro σ H' ⟨v, rfl, S, hq'⟩
      refine ⟨_, rfl, kQ H' q S ?_⟩
      rw [hq']
      congr 3
      funext t
      rw [if_pos (by omega)]
end
end LT
end
section
set_option linter.all false
set_option Elab.async false
set_option maxRecDepth 100000
set_option maxHeartbeats 2000000
namespace LT
open PySem PySem.Spec PyProof.Rows L2 LX
section
variable {P : Program} {w : World} {K : PySem.W.Frag} {mg : Str → Option Value} {base : Heap}
/-! ### uncertain_parts -/
def uncF (T : Sd49.Table) (s : Sd49.Status) (L k m n : Nat) : Nat → Nat := fun t => unc (T.up + T.down) T.down L (Sd49.alive T s) (ifT k m n) (endP k m n) (L + 1 - t)
def spUnc (c : CS) (CP : Addr) : Sp := fun vs H Q _ => ∃ (p a sc : Addr) (T : Sd49.Table) (s : Sd49.Status) (L k m n : Nat), vs = [.ref p, .ref a, .ref sc, .int (L : Nat)] ∧ StAt c H p T s ∧ WfS T s ∧ PayAt CP H a k m n ∧ n ≤ 120 ∧ H sc = some (.lst (tab (scF (T.up + T.down) L))) ∧ L ≤ 240 ∧
  ∀ (H' : Hp) (q : Addr), Same H H' → H' q = some (.lst (tab (uncF T s L k m n))) → Q (.ref q) H'
theorem scUnc : FnScope ["status", "payment", "scales", "last", "parts", "when", "ways", "later", "ending"] ["status", "payment", "scales", "last"] (defScope sUnc) := ⟨rfl, rfl, rfl, by decide +kernel, rfl, by decide +kernel, by decide +kernel⟩
theorem ok_unc {f CP : Addr} {c : CS} {fd : FuncData} (F : Fun K "uncertain_parts" "uncertain_parts" sUnc f fd) (T : TxPro mg) (TR : TxRatio K c.r) (TT : TxTable K c.t) (TS : TxSt K mg c.s) (TP : TxPay K mg CP) (GW : GM P w K mg base CX0 c.s "ways" 3 ["self", "when"] (spWays c))
    (GI : GM P w K mg base CX0 CP "if_there" 3 ["self", "when"] (spIfT CP)) (GE : GM P w K mg base CX0 CP "for_its_end" 3 ["self", "when"] (spEndP CP)) :
    FnOk P w K mg base CX0 4 f fd ["status", "payment", "scales", "last"] (spUnc c CP) := by
  refine F.ok scUnc (fun vs H Q E h => ?_) (fun cdv A outer s H vs Q E hr h => ?_)
  · obtain ⟨p, a, sc, T, s, L, k, m, n, rfl, _⟩ := h
    rfl
  · obtain ⟨p, a, sc, Tb, st, L, k, m, n, rfl, hS, W, hP, hn, hsc, hL, kQ⟩ := h
    obtain ⟨da, ha⟩ := id hP
    obtain ⟨dx, tb, y, hp, hy, hT⟩ := id hS
    obtain ⟨dt, r, l, dr, ht, hR, hl⟩ := id hT
    have u1 := W.tab.up
    have u2 := W.tab.down
    have w1 : 1 ≤ Tb.up + Tb.down := by omega
    have w2 : Tb.up + Tb.down ≤ 2000 := by omega
    have nw : (sf tb (st.kind : Nat) (st.x : Nat) y).lookup ("ways" : Str) = none := sf_no _ _ _ _ (by decide +kernel) (by decide +kernel) (by decide +kernel) (by decide +kernel)
    have no : ∀ {x : Str}, ¬ x = "kind" → ¬ x = "wait" → ¬ x = "years" → (pf (k : Nat) (m : Nat) (n : Nat)).lookup x = none := fun h1 h2 h3 => pf_no _ _ _ h1 h2 h3
    refine ⟨_, pss_cons (ps_set (i := 4) scUnc.nd rfl (Or.inl rfl) (pe_op op_rep (pe_lst (pa_cons pe_int pa_nil)) (pe_cst rfl T.times)))
      (pss_cons (ps_for PassesOwn.never rfl (pi_range3 rfl T.range (pa_cons (pv 3) (pa_cons (pe_un un_neg pe_int) (pa_cons (pe_un un_neg pe_int) pa_nil)))) (pg_name (i := 5) scUnc.nd rfl (Or.inl rfl))
        (pss_cons (ps_set (i := 6) scUnc.nd rfl (Or.inl rfl) (pe_gm (pv 0) TS.cl GW hr pass0 (pa_cons (pv 5) pa_nil)))
        (pss_cons (ps_set (i := 7) scUnc.nd rfl (Or.inl rfl) (pe_op op_add (pv 5) pe_int))
        (pss_cons (ps_set (i := 8) scUnc.nd rfl (Or.inl rfl) (pe_op op_mulF (pe_gm (pv 1) TP.cl GE hr pass0 (pa_cons (pv 7) pa_nil)) (pe_op op_sub (pv 6) (pe_gm (pv 0) TS.cl GW hr pass0 (pa_cons (pv 7) pa_nil)))))
        (pss_cons (ps_asg (pe_op op_mulF (pe_op op_mulF (pe_gm (pv 1) TP.cl GI hr pass0 (pa_cons (pv 5) pa_nil)) (pv 6)) (pe_ix ix_list (pv 2) (pv 5) (fun _ _ => rfl))) (pg_sub (pv 4) (pv 5) set_list))
        (pss_one (ps_asg (pe_op op_add (pe_ix ix_list (pv 4) (pv 5) (fun _ _ => rfl)) (pe_op op_mulF (pe_op op_add (pe_ix ix_list (pv 4) (pv 7) (fun _ _ => rfl)) (pe_op op_mulF (pv 8) (pe_ix ix_list (pv 2) (pv 7) (fun _ _ => rfl)))) (pe_fld (pe_fld (pe_fld (pv 0) rfl) rfl) rfl))) (pg_sub (pv 4) (pv 5) set_list))))))))
      (pss_one (ps_ret (pv 4)))), ?_⟩
    refine ⟨(by show 1 ≤ sizeLine; decide), fun l0 hl0 => ⟨l0, 242, _, rfl, rfl, upd_same, by decide, by decide, (by rw [sizeLine_eq]; decide), fun q hq => ?_⟩⟩
    have nq : H q = none := by
      by_cases e : q = l0
      · rw [e]
        exact hl0
      · rw [upd_ne e] at hq
        exact hq
    have S1 : Same H (upd (upd H l0 (.lst [.int 0])) q (.lst (tab fun _ => 0))) := (Same.lay hl0).trans (Same.lay hq)
    refine ⟨_, rfl, _, rfl, _, rfl, (L : Int), -1, -1, L + 1, rfl, down_rg0 L hL, for_rangeC (fun i σ H' => ∃ v5 v6 v7 v8 : Option V, σ = [some (.ref p), some (.ref a), some (.ref sc), some (.int (L : Nat)), some (.ref q), v5, v6, v7, v8] ∧ Same H H' ∧ H' q = some (.lst (tab fun t => if L + 1 ≤ t + i then uncF Tb st L k m n t else 0)))
      ⟨none, none, none, none, rfl, ?_, ?_⟩ ?_ ?_⟩
    · have := S1
      rw [← tab_rep 0] at this
      exact this
    · have e : (tab fun t => if L + 1 ≤ t + 0 then uncF Tb st L k m n t else 0) = tab fun _ => 0 := congrArg tab (funext fun t => by
        split
        · unfold uncF
          rw [show L + 1 - t = 0 by omega]
          rfl
        · rfl)
      rw [e, ← tab_rep 0]
      exact upd_same
    · rintro i σ H' hi ⟨v5, v6, v7, v8, rfl, S, hq'⟩
      rw [show (L : Int) + ((i : Nat) : Int) * -1 = ((L - i : Nat) : Int) by omega]
      -- ways, later
      refine ⟨_, rfl, p, dx, _, rfl, S _ _ hp, nw, _, rfl, p, Tb, st, L - i, rfl, hS.same S, W, ?_⟩
      refine ⟨_, rfl, _, _, rfl, rfl, ?_⟩
      -- ending
      refine ⟨_, rfl, a, da, _, rfl, S _ _ ha, no (by decide +kernel) (by decide +kernel) (by decide +kernel), _, rfl, a, k, m, n, L - i + 1, rfl, hP.same S, fun H2 S2 => ?_⟩
      have T2 := S.trans S2
      have hq2 := S2 _ _ hq'
      have ym := alive_mono W.tab (s := st) (t := L - i) (u := L - i + 1) (by omega)
      have ed : ((Sd49.alive Tb st (L - i) : Nat) : Int) - ((Sd49.alive Tb st (L - i + 1) : Nat) : Int) = ((Sd49.alive Tb st (L - i) - Sd49.alive Tb st (L - i + 1) : Nat) : Int) := by omega
      have smE : Sm 7 ((endP k m n (L - i + 1) : Nat) : Int) := sm_nat (by have := endP_le (k := k) (m := m) hn (L - i + 1); show _ < 128; omega)
      have smD : Sm 40 (((Sd49.alive Tb st (L - i) : Nat) : Int) - ((Sd49.alive Tb st (L - i + 1) : Nat) : Int)) := by
        rw [ed]
        exact (alive_sm W.tab (L - i)).le (Nat.sub_le _ _)
      have smI : Sm 1 ((ifT k m n (L - i) : Nat) : Int) := sm_nat (by have := ifT_le k m n (L - i); show _ < 2; omega)
      refine ⟨_, rfl, _, rfl, p, dx, _, rfl, T2 _ _ hp, nw, _, rfl, p, Tb, st, L - i + 1, rfl, hS.same T2, W, _, _, rfl, rfl, _, _, rfl, rfl, ⟨smE.fits, smD.fits⟩, ?_⟩
      -- parts[when] = ...
      refine ⟨_, rfl, a, da, _, rfl, T2 _ _ ha, no (by decide +kernel) (by decide +kernel) (by decide +kernel), _, rfl, a, k, m, n, L - i, rfl, hP.same T2, fun H3 S3 => ?_⟩
      have T3 := T2.trans S3
      have hq3 := S3 _ _ hq2
      have hs0 : atI (tab (scF (Tb.up + Tb.down) L)) ((L - i : Nat) : Int) = some (.int (((Tb.up + Tb.down) ^ i : Nat) : Int)) := by
        have := tab_at (scF (Tb.up + Tb.down) L) (z := ((L - i : Nat) : Int)) (t := L - i) rfl (by omega)
        unfold scF at this
        rw [show L - (L - i) = i by omega] at this
        exact this
      have hs1 : atI (tab (scF (Tb.up + Tb.down) L)) (((L - i : Nat) : Int) + 1) = some (.int (((Tb.up + Tb.down) ^ (i - 1) : Nat) : Int)) := by
        have := tab_at (scF (Tb.up + Tb.down) L) (z := ((L - i : Nat) : Int) + 1) (t := L - i + 1) (by omega) (by omega)
        unfold scF at this
        rw [show L - (L - i + 1) = i - 1 by omega] at this
        exact this
      refine ⟨_, rfl, _, _, rfl, rfl, ⟨smI.fits, (alive_sm W.tab _).fits⟩, _, rfl, _, rfl, sc, _, _, _, rfl, rfl, SqL.of (T3 _ _ hsc), hs0, _, _, rfl, rfl, ⟨(smI.mul (alive_sm W.tab _)).fits, (scale_sm w1 w2 (by omega)).fits⟩, ?_⟩
      refine ⟨_, rfl, _, rfl, q, _, _, L - i, rfl, rfl, hq3, tab_ix _ (by omega), ?_⟩
      have ev0 : ((ifT k m n (L - i) : Nat) : Int) * ((Sd49.alive Tb st (L - i) : Nat) : Int) * (((Tb.up + Tb.down) ^ i : Nat) : Int) = ((ifT k m n (L - i) * Sd49.alive Tb st (L - i) * (Tb.up + Tb.down) ^ i : Nat) : Int) := by
        rw [Int.natCast_mul, Int.natCast_mul]
      try dsimp only
      rw [ev0, tab_set]
      have T4 : Same H (upd H3 q (.lst (tab fun u => if u = L - i then ifT k m n (L - i) * Sd49.alive Tb st (L - i) * (Tb.up + Tb.down) ^ i else if L + 1 ≤ u + i then uncF Tb st L k m n u else 0))) := T3.put nq
      have g0 : atI (tab fun u => if u = L - i then ifT k m n (L - i) * Sd49.alive Tb st (L - i) * (Tb.up + Tb.down) ^ i else if L + 1 ≤ u + i then uncF Tb st L k m n u else 0) ((L - i : Nat) : Int) = some (.int ((ifT k m n (L - i) * Sd49.alive Tb st (L - i) * (Tb.up + Tb.down) ^ i : Nat) : Int)) := by
        have := tab_at (fun u => if u = L - i then ifT k m n (L - i) * Sd49.alive Tb st (L - i) * (Tb.up + Tb.down) ^ i else if L + 1 ≤ u + i then uncF Tb st L k m n u else 0) (z := ((L - i : Nat) : Int)) (t := L - i) rfl (by omega)
        try dsimp only at this
        rw [if_pos rfl] at this
        exact this
      have g1 : atI (tab fun u => if u = L - i then ifT k m n (L - i) * Sd49.alive Tb st (L - i) * (Tb.up + Tb.down) ^ i else if L + 1 ≤ u + i then uncF Tb st L k m n u else 0) (((L - i : Nat) : Int) + 1) = some (.int ((unc (Tb.up + Tb.down) Tb.down L (Sd49.alive Tb st) (ifT k m n) (endP k m n) i : Nat) : Int)) := by
        have := tab_at (fun u => if u = L - i then ifT k m n (L - i) * Sd49.alive Tb st (L - i) * (Tb.up + Tb.down) ^ i else if L + 1 ≤ u + i then uncF Tb st L k m n u else 0) (z := ((L - i : Nat) : Int) + 1) (t := L - i + 1) (by omega) (by omega)
        try dsimp only at this
        rw [if_neg (by omega), if_pos (by omega)] at this
        unfold uncF at this
        rw [show L + 1 - (L - i + 1) = i by omega] at this
        exact this
      have smU : Sm 2710 ((unc (Tb.up + Tb.down) Tb.down L (Sd49.alive Tb st) (ifT k m n) (endP k m n) i : Nat) : Int) := unc_sm W.tab (fun t => Nat.le_trans (ifT_le k m n t) (by decide)) (fun t => endP_le hn t) (by omega)
      have smS : Sm 2680 (((Tb.up + Tb.down) ^ (i - 1) : Nat) : Int) := scale_sm w1 w2 (by omega)
      have smB : Sm 10 ((Tb.down : Nat) : Int) := sm_nat (by show _ < 1024; omega)
      refine ⟨_, rfl, _, rfl, q, _, _, _, rfl, rfl, SqL.of upd_same, g0, _, rfl, _, rfl, q, _, _, _, rfl, rfl, SqL.of upd_same, g1, _, rfl, _, rfl, _, rfl, sc, _, _, _, rfl, rfl, SqL.of (T4 _ _ hsc), hs1, _, _, rfl, rfl, ⟨(smE.mul smD).fits, smS.fits⟩, _, _, rfl, rfl,
        _, rfl, p, c.s, dx, _, _, rfl, T4 _ _ hp, TS.cl, TS.nT, sf_table _ _ _ _, tb, c.t, dt, _, _, rfl, T4 _ _ ht, TT.cl, TT.nR, tf_rate _ _, r, c.r, dr, _, _, rfl, T4 _ _ hR, TR.cl, TR.nB, rf_bottom _ _, _, _, rfl, rfl, ⟨((smU.mono (by decide)).add ((smE.mul smD).mul smS)).fits, smB.fits⟩, _, _, rfl, rfl, ?_⟩
      refine ⟨_, rfl, _, rfl, q, _, _, L - i, rfl, rfl, upd_same, tab_ix _ (by omega), ?_⟩
      refine ⟨_, _, _, _, rfl, T4.put nq, ?_⟩
      rw [upd_same]
      have ev : ((ifT k m n (L - i) * Sd49.alive Tb st (L - i) * (Tb.up + Tb.down) ^ i : Nat) : Int) + (((unc (Tb.up + Tb.down) Tb.down L (Sd49.alive Tb st) (ifT k m n) (endP k m n) i : Nat) : Int) + ((endP k m n (L - i + 1) : Nat) : Int) * (((Sd49.alive Tb st (L - i) : Nat) : Int) - ((Sd49.alive Tb st (L - i + 1) : Nat) : Int)) * (((Tb.up + Tb.down) ^ (i - 1) : Nat) : Int)) * ((Tb.down : Nat) : Int) =
          ((unc (Tb.up + Tb.down) Tb.down L (Sd49.alive Tb st) (ifT k m n) (endP k m n) (i + 1) : Nat) : Int) := by
        rw [unc, ed, Int.natCast_add, Int.natCast_mul (_ + _), Int.natCast_add, Int.natCast_mul (endP k m n (L - i + 1) * _), Int.natCast_mul (endP k m n (L - i + 1))]
      try dsimp only
      rw [ev, tab_set]
      congr 3
      funext t
      by_cases e : t = L - i
      · rw [if_pos e, if_pos (by omega)]
        unfold uncF
        rw [show L + 1 - t = i + 1 by omega]
      · rw [if_neg e, if_neg e]
        by_cases e2 : L + 1 ≤ t + i
        · rw [if_pos e2, if_pos (by omega)]
        · rw [if_neg e2, if_neg (by omega)]
    · rintro σ H' ⟨v5, v6, v7, v8, rfl, S, hq'⟩
      refine ⟨_, rfl, kQ H' q S ?_⟩
      rw [hq']
      congr 3
      funext t
      rw [if_pos (by omega)]
/-! ### last_paid -/
def spLastPaid (c : CS) (CP : Addr) : Sp := fun vs H Q _ => ∃ (p a : Addr) (T : Sd49.Table) (s : Sd49.Status) (k m n : Nat), vs = [.ref p, .ref a] ∧ StAt c H p T s ∧ WfS T s ∧ PayAt CP H a k m n ∧ Q (.int ((lastPaid T s k m n : Nat) : Int)) H
theorem scLastPaid : FnScope ["status", "payment"] ["status", "payment"] (defScope sLastPaid) := ⟨rfl, rfl, rfl, by decide +kernel, rfl, by decide +kernel, by decide +kernel⟩
theorem ok_lastPaid {f CP : Addr} {c : CS} {fd : FuncData} (F : Fun K "last_paid" "last_paid" sLastPaid f fd) (T : TxPro mg) (TS : TxSt K mg c.s) (TP : TxPay K mg CP) (GL : GM P w K mg base CX0 CP "last_time" 1 ["self"] (spLastT CP)) (GG : GM P w K mg base CX0 c.s "time_gone" 2 ["self"] (spGone c)) :
    FnOk P w K mg base CX0 3 f fd ["status", "payment"] (spLastPaid c CP) := by
  refine F.ok scLastPaid (fun vs H Q E h => ?_) (fun cdv A outer s H vs Q E hr h => ?_)
  · obtain ⟨p, a, T, s, k, m, n, rfl, _⟩ := h
    rfl
  · obtain ⟨p, a, Tb, st, k, m, n, rfl, hS, W, hP, q⟩ := h
    obtain ⟨da, ha⟩ := id hP
    obtain ⟨dx, tb, y, hp, hy, hT⟩ := id hS
    refine ⟨_, pss_cons (ps_if (pt_cmpR op_eq (pe_fld (pv 1) rfl) (pe_cst rfl TP.k6) (nomark _)) (pss_one (ps_ret (pe_gm0 (pv 1) TP.cl GL hr pass0))) pss_nil)
      (pss_one (ps_ret (pe_callB (call_min2 rfl) rfl T.min boot_min (pa_cons (pe_gm0 (pv 1) TP.cl GL hr pass0) (pa_cons (pe_gm0 (pv 0) TS.cl GG hr pass0) pa_nil))))), ?_⟩
    refine ⟨_, rfl, a, CP, da, _, _, rfl, ha, TP.cl, TP.nK, pf_kind _ _ _, rfl, _, rfl, ?_⟩
    unfold lastPaid at q
    by_cases h6 : k = 6
    · rw [decide_eq_true (by rw [h6]; rfl)]
      rw [if_pos h6] at q
      exact iteT ⟨_, rfl, a, da, _, rfl, ha, pf_no _ _ _ (by decide +kernel) (by decide +kernel) (by decide +kernel), a, k, m, n, rfl, hP, q⟩
    · rw [decide_eq_false (fun z => h6 (by injection z with z; omega))]
      rw [if_neg h6] at q
      refine iteF ⟨_, rfl, a, da, _, rfl, ha, pf_no _ _ _ (by decide +kernel) (by decide +kernel) (by decide +kernel), a, k, m, n, rfl, hP, _, rfl, p, dx, _, rfl, hp, sf_no _ _ _ _ (by decide +kernel) (by decide +kernel) (by decide +kernel) (by decide +kernel), p, Tb, st, rfl, hS, W, _, _, rfl, ?_⟩
      have e : (if ((gone Tb st : Nat) : Int) < ((m + n : Nat) : Int) then ((gone Tb st : Nat) : Int) else ((m + n : Nat) : Int)) = ((min (m + n) (gone Tb st) : Nat) : Int) := by
        split <;> omega
      rw [← e] at q
      exact q
/-! ### Prospect -/
abbrev sProInit : Stmt := inClass (top 23) 0
abbrev sParts : Stmt := inClass (top 23) 1
abbrev sPartsAny : Stmt := inClass (top 23) 2
abbrev sWhole : Stmt := inClass (top 23) 3
def qf (s a b d : Addr) : List (Str × V) := putF "uncertain" (.ref d) (putF "certain" (.ref b) (putF "scales" (.ref a) (putF "status" (.ref s) [])))
theorem qf_status (s a b d : Addr) : (qf s a b d).lookup ("status" : Str) = some (.ref s) := by
  unfold qf
  rw [lookup_putF, if_neg (by decide), lookup_putF, if_neg (by decide), lookup_putF, if_neg (by decide), lookup_putF, if_pos rfl]
theorem qf_scales (s a b d : Addr) : (qf s a b d).lookup ("scales" : Str) = some (.ref a) := by
  unfold qf
  rw [lookup_putF, if_neg (by decide), lookup_putF, if_neg (by decide), lookup_putF, if_pos rfl]
theorem qf_certain (s a b d : Addr) : (qf s a b d).lookup ("certain" : Str) = some (.ref b) := by
  unfold qf
  rw [lookup_putF, if_neg (by decide), lookup_putF, if_pos rfl]
theorem qf_uncertain (s a b d : Addr) : (qf s a b d).lookup ("uncertain" : Str) = some (.ref d) := by
  unfold qf
  rw [lookup_putF, if_pos rfl]
theorem qf_no (s a b d : Addr) {m : Str} (h1 : ¬ m = "status") (h2 : ¬ m = "scales") (h3 : ¬ m = "certain") (h4 : ¬ m = "uncertain") : (qf s a b d).lookup m = none := by
  unfold qf
  rw [lookup_putF, if_neg h4, lookup_putF, if_neg h3, lookup_putF, if_neg h2, lookup_putF, if_neg h1]
  rfl
structure TxProC (K : PySem.W.Frag) (C : Addr) : Prop where
  cl : Cls K C
  nS : NoAttr K C "status"
  nA : NoAttr K C "scales"
  nB : NoAttr K C "certain"
  nD : NoAttr K C "uncertain"
/-- the Prospect of a payment on a status, till L -/
def ProAt (c : CS) (C : Addr) (H : Hp) (q : Addr) (T : Sd49.Table) (s : Sd49.Status) (L k m n : Nat) : Prop := ∃ dx sa a b d, H q = some (.ins C dx (qf sa a b d)) ∧ StAt c H sa T s ∧ H a = some (.lst (tab (scF (T.up + T.down) L))) ∧ H b = some (.lst (tab (cerF (T.up + T.down) T.down L k m n))) ∧ H d = some (.lst (tab (uncF T s L k m n)))
theorem ProAt.same {c : CS} {C : Addr} {H H' : Hp} {q : Addr} {T : Sd49.Table} {s : Sd49.Status} {L k m n : Nat} (h : ProAt c C H q T s L k m n) (e : Same H H') : ProAt c C H' q T s L k m n := by
  obtain ⟨dx, sa, a, b, d, h1, h2, h3, h4, h5⟩ := h
  exact ⟨dx, sa, a, b, d, e _ _ h1, h2.same e, e _ _ h3, e _ _ h4, e _ _ h5⟩
def spProInit (c : CS) (CP C : Addr) : Sp := fun vs H Q _ => ∃ (H0 : Hp) (q dx p a : Addr) (T : Sd49.Table) (s : Sd49.Status) (L k m n : Nat), vs = [.ref q, .ref p, .ref a, .int (L : Nat)] ∧ H q = some (.ins C dx []) ∧ H0 q = none ∧ Same H0 H ∧ StAt c H0 p T s ∧ WfS T s ∧ PayAt CP H0 a k m n ∧ n ≤ 120 ∧ L ≤ 240 ∧
  ∀ H' : Hp, Same H0 H' → ProAt c C H' q T s L k m n → Q .non H'
theorem scProInit : FnScope ["self", "status", "payment", "last"] ["self", "status", "payment", "last"] (defScope sProInit) := ⟨rfl, rfl, rfl, by decide +kernel, rfl, by decide +kernel, by decide +kernel⟩
abbrev psC : List Str := ["rate", "payment", "scales", "last"]
abbrev psU : List Str := ["status", "payment", "scales", "last"]
theorem ok_proInit {f CP C : Addr} {c : CS} {fd : FuncData} (F : Fun K "__init__" "Prospect.__init__" sProInit f fd) (TQ : TxProC K C) (TT : TxTable K c.t) (TS : TxSt K mg c.s) (GS : GF P w K mg base CX0 "scales_of" 1 ["rate", "last"] (spScales c.r)) (GC : GF P w K mg base CX0 "certain_parts" 4 psC (spCert c.r CP))
    (GU : GF P w K mg base CX0 "uncertain_parts" 4 psU (spUnc c CP)) : FnOk P w K mg base CX0 5 f fd ["self", "status", "payment", "last"] (spProInit c CP C) := by
  refine F.ok scProInit (fun vs H Q E h => ?_) (fun cdv A outer s H vs Q E hr h => ?_)
  · obtain ⟨H0, q, dx, p, a, T, s, L, k, m, n, rfl, _⟩ := h
    rfl
  · obtain ⟨H0, q, dx, p, a, Tb, st, L, k, m, n, rfl, hq, n0, s0, hS, W, hP, hn, hL, kQ⟩ := h
    obtain ⟨da, ha⟩ := id hP
    obtain ⟨ds, tb, y, hp, hy, hT⟩ := id hS
    obtain ⟨dt, r, l, dr, ht, hR, hl⟩ := id hT
    have u1 := W.tab.up
    have u2 := W.tab.down
    refine ⟨_, pss_cons (ps_fld (pv 0) (pv 1) rfl)
      (pss_cons (ps_fld (pv 0) (pe_gf GS hr pass0 (pa_cons (pe_fld (pe_fld (pv 1) rfl) rfl) (pa_cons (pv 3) pa_nil))) rfl)
      (pss_cons (ps_fld (pv 0) (pe_gf GC hr pass0 (pa_cons (pe_fld (pe_fld (pv 1) rfl) rfl) (pa_cons (pv 2) (pa_cons (pe_fld (pv 0) rfl) (pa_cons (pv 3) pa_nil))))) rfl)
      (pss_one (ps_fld (pv 0) (pe_gf GU hr pass0 (pa_cons (pv 1) (pa_cons (pv 2) (pa_cons (pe_fld (pv 0) rfl) (pa_cons (pv 3) pa_nil))))) rfl)))), ?_⟩
    refine ⟨_, rfl, _, rfl, q, C, dx, _, rfl, hq, TQ.cl, TQ.nS, (by show 0 < 1000; decide), ?_⟩
    have S1 : Same H0 (upd H q (.ins C dx (putF "status" (.ref p) []))) := s0.put n0
    refine ⟨_, rfl, p, c.s, ds, _, _, rfl, S1 _ _ hp, TS.cl, TS.nT, sf_table _ _ _ _, tb, c.t, dt, _, _, rfl, S1 _ _ ht, TT.cl, TT.nR, tf_rate _ _, _, rfl, r, dr, Tb.up, Tb.down, L, rfl, S1 _ _ hR, by omega, by omega, hL, fun H2 sc S2 hsc => ?_⟩
    have q2 := S2 _ _ (upd_same (H := H) (a := q) (o := HO.ins C dx (putF "status" (.ref p) [])))
    have T2 : Same H0 H2 := S1.trans S2
    have nsq : sc ≠ q := ne_of hsc q2 (by intro z; cases z)
    refine ⟨_, rfl, q, C, dx, _, rfl, q2, TQ.cl, TQ.nA, (by show 1 < 1000; decide), ?_⟩
    have T3 : Same H0 (upd H2 q (.ins C dx (putF "scales" (.ref sc) (putF "status" (.ref p) [])))) := T2.put n0
    have hsc3 : upd H2 q (.ins C dx (putF "scales" (.ref sc) (putF "status" (.ref p) []))) sc = some (.lst (tab (scF (Tb.up + Tb.down) L))) := by rw [upd_ne nsq]; exact hsc
    refine ⟨_, rfl, p, c.s, ds, _, _, rfl, T3 _ _ hp, TS.cl, TS.nT, sf_table _ _ _ _, tb, c.t, dt, _, _, rfl, T3 _ _ ht, TT.cl, TT.nR, tf_rate _ _, _, rfl, _, rfl, q, C, dx, _, _, rfl, upd_same, TQ.cl, TQ.nA, by rw [lookup_putF, if_pos rfl], _, rfl,
      r, dr, a, sc, Tb, L, k, m, n, rfl, T3 _ _ hR, W.tab, hP.same T3, hsc3, hL, fun H4 ce S4 hce => ?_⟩
    have q4 := S4 _ _ (upd_same (H := H2) (a := q) (o := HO.ins C dx (putF "scales" (.ref sc) (putF "status" (.ref p) []))))
    have T4 : Same H0 H4 := T3.trans S4
    have hsc4 := S4 _ _ hsc3
    have nce : ce ≠ q := ne_of hce q4 (by intro z; cases z)
    refine ⟨_, rfl, q, C, dx, _, rfl, q4, TQ.cl, TQ.nB, (by show 2 < 1000; decide), ?_⟩
    have T5 : Same H0 (upd H4 q (.ins C dx (putF "certain" (.ref ce) (putF "scales" (.ref sc) (putF "status" (.ref p) []))))) := T4.put n0
    have hsc5 : upd H4 q (.ins C dx (putF "certain" (.ref ce) (putF "scales" (.ref sc) (putF "status" (.ref p) [])))) sc = some (.lst (tab (scF (Tb.up + Tb.down) L))) := by rw [upd_ne nsq]; exact hsc4
    have hce5 : upd H4 q (.ins C dx (putF "certain" (.ref ce) (putF "scales" (.ref sc) (putF "status" (.ref p) [])))) ce = some (.lst (tab (cerF (Tb.up + Tb.down) Tb.down L k m n))) := by rw [upd_ne nce]; exact hce
    refine ⟨_, rfl, _, rfl, _, rfl, q, C, dx, _, _, rfl, upd_same, TQ.cl, TQ.nA, by rw [lookup_putF, if_neg (by decide), lookup_putF, if_pos rfl], _, rfl, p, a, sc, Tb, st, L, k, m, n, rfl, hS.same T5, W, hP.same T5, hn, hsc5, hL, fun H6 un S6 hun => ?_⟩
    have q6 := S6 _ _ (upd_same (H := H4) (a := q) (o := HO.ins C dx (putF "certain" (.ref ce) (putF "scales" (.ref sc) (putF "status" (.ref p) [])))))
    have T6 : Same H0 H6 := T5.trans S6
    have nun : un ≠ q := ne_of hun q6 (by intro z; cases z)
    refine ⟨_, rfl, q, C, dx, _, rfl, q6, TQ.cl, TQ.nD, (by show 3 < 1000; decide), ?_⟩
    have T7 : Same H0 (upd H6 q (.ins C dx (qf p sc ce un))) := T6.put n0
    refine kQ _ T7 ⟨dx, p, sc, ce, un, upd_same, hS.same T7, ?_, ?_, ?_⟩
    · rw [upd_ne nsq]
      exact S6 _ _ hsc5
    · rw [upd_ne nce]
      exact S6 _ _ hce5
    · rw [upd_ne nun]
      exact hun
end
end LT
end
section
set_option linter.all false
set_option Elab.async false
set_option maxRecDepth 100000
set_option maxHeartbeats 2000000
namespace LT
open PySem PySem.Spec PyProof.Rows L2 LX
theorem parts_eq {T : Sd49.Table} {s : Sd49.Status} {L k m n t : Nat} (hk : k ≤ 6) : partsOf T s L (Sd49.pays k m n) t = uncF T s L k m n t + cerF (T.up + T.down) T.down L k m n t * Sd49.alive T s t := by
  have e1 : amt .living (Sd49.pays k m n) = ifT k m n := funext fun t => amt_living hk m n t
  have e2 : amt .dying (Sd49.pays k m n) = endP k m n := funext fun t => amt_dying hk m n t
  have e3 : amt .sure (Sd49.pays k m n) = anyC k m n := funext fun t => amt_sure hk m n t
  unfold partsOf uncF cerF
  rw [e1, e2, e3]
theorem left_zero (k m n : Nat) : Sd49.left 0 (Sd49.pays k m n) = Sd49.pays k m n := by
  unfold Sd49.left
  rw [List.filter_eq_self]
  intro p hp
  cases e : p.how with
  | living => simp
  | sure => simp
  | dying =>
    have : 0 < p.time := by
      unfold Sd49.pays at hp
      repeat' (split at hp)
      all_goals first
        | (obtain ⟨u, hu, rfl⟩ := List.mem_map.mp hp
           simp [Sd49.pay] at e ⊢)
        | (rw [List.mem_singleton] at hp
           subst hp
           simp [Sd49.pay] at e)
        | (rcases List.mem_append.mp hp with hp | hp
           · obtain ⟨u, hu, rfl⟩ := List.mem_map.mp hp
             simp [Sd49.pay] at e ⊢
           · rw [List.mem_singleton] at hp
             subst hp
             simp [Sd49.pay] at e)
    simp [this]
section
variable {P : Program} {w : World} {K : PySem.W.Frag} {mg : Str → Option Value} {base : Heap}
/-! ### Prospect's numbers -/
abbrev psW : List Str := ["self", "when"]
def spParts (c : CS) (C : Addr) : Sp := fun vs H Q _ => ∃ (q : Addr) (T : Sd49.Table) (s : Sd49.Status) (L k m n t : Nat), vs = [.ref q, .int (t : Nat)] ∧ ProAt c C H q T s L k m n ∧ WfS T s ∧ k ≤ 6 ∧ n ≤ 120 ∧ L ≤ 240 ∧ t ≤ 241 ∧ Q (.int ((partsOf T s L (Sd49.pays k m n) t : Nat) : Int)) H
theorem scParts : FnScope ["self", "when"] psW (defScope sParts) := ⟨rfl, rfl, rfl, by decide +kernel, rfl, by decide +kernel, by decide +kernel⟩
theorem ok_parts {f C : Addr} {c : CS} {fd : FuncData} (F : Fun K "parts" "Prospect.parts" sParts f fd) (TQ : TxProC K C) (TS : TxSt K mg c.s) (GW : GM P w K mg base CX0 c.s "ways" 3 psW (spWays c)) : FnOk P w K mg base CX0 4 f fd psW (spParts c C) := by
  refine F.ok scParts (fun vs H Q E h => ?_) (fun cdv A outer s H vs Q E hr h => ?_)
  · obtain ⟨q, T, s, L, k, m, n, t, rfl, _⟩ := h
    rfl
  · obtain ⟨q, Tb, st, L, k, m, n, t, rfl, ⟨dx, sa, a, b, d, hq, hS, h1, h2, h3⟩, W, hk, hn, hL, ht, kQ⟩ := h
    obtain ⟨ds, tb, y, hp, hy, hT⟩ := id hS
    refine ⟨_, pss_one (ps_ret (pe_op op_add (pe_ix ix_list (pe_fld (pv 0) rfl) (pv 1) (fun _ _ => rfl)) (pe_op op_mulF (pe_ix ix_list (pe_fld (pv 0) rfl) (pv 1) (fun _ _ => rfl)) (pe_gm (pe_fld (pv 0) rfl) TS.cl GW hr pass0 (pa_cons (pv 1) pa_nil))))), ?_⟩
    refine ⟨_, rfl, q, C, dx, _, _, rfl, hq, TQ.cl, TQ.nD, qf_uncertain _ _ _ _, _, rfl, d, _, _, _, rfl, rfl, SqL.of h3, tab_at _ rfl (by omega), _, rfl, q, C, dx, _, _, rfl, hq, TQ.cl, TQ.nB, qf_certain _ _ _ _, _, rfl, b, _, _, _, rfl, rfl, SqL.of h2, tab_at _ rfl (by omega),
      _, rfl, q, C, dx, _, _, rfl, hq, TQ.cl, TQ.nS, qf_status _ _ _ _, sa, ds, _, rfl, hp, sf_no _ _ _ _ (by decide +kernel) (by decide +kernel) (by decide +kernel) (by decide +kernel), _, rfl, sa, Tb, st, t, rfl, hS, W, _, _, rfl, rfl, ⟨(cer_sm W.tab (fun t => anyC_le k m n t) (by omega)).fits, (alive_sm W.tab _).fits⟩, _, _, rfl, rfl, ?_⟩
    rw [parts_eq hk, Int.natCast_add, Int.natCast_mul] at kQ
    exact kQ
def spPartsAny (c : CS) (C : Addr) : Sp := fun vs H Q _ => ∃ (q : Addr) (T : Sd49.Table) (s : Sd49.Status) (L k m n t : Nat), vs = [.ref q, .int (t : Nat)] ∧ ProAt c C H q T s L k m n ∧ WfS T s ∧ L ≤ 240 ∧ t ≤ 241 ∧ Q (.int ((cerF (T.up + T.down) T.down L k m n t * Sd49.alive T s t : Nat) : Int)) H
theorem scPartsAny : FnScope ["self", "when"] psW (defScope sPartsAny) := ⟨rfl, rfl, rfl, by decide +kernel, rfl, by decide +kernel, by decide +kernel⟩
theorem ok_partsAny {f C : Addr} {c : CS} {fd : FuncData} (F : Fun K "parts_in_any_case" "Prospect.parts_in_any_case" sPartsAny f fd) (TQ : TxProC K C) (TS : TxSt K mg c.s) (GW : GM P w K mg base CX0 c.s "ways" 3 psW (spWays c)) : FnOk P w K mg base CX0 4 f fd psW (spPartsAny c C) := by
  refine F.ok scPartsAny (fun vs H Q E h => ?_) (fun cdv A outer s H vs Q E hr h => ?_)
  · obtain ⟨q, T, s, L, k, m, n, t, rfl, _⟩ := h
    rfl
  · obtain ⟨q, Tb, st, L, k, m, n, t, rfl, ⟨dx, sa, a, b, d, hq, hS, h1, h2, h3⟩, W, hL, ht, kQ⟩ := h
    obtain ⟨ds, tb, y, hp, hy, hT⟩ := id hS
    refine ⟨_, pss_one (ps_ret (pe_op op_mulF (pe_ix ix_list (pe_fld (pv 0) rfl) (pv 1) (fun _ _ => rfl)) (pe_gm (pe_fld (pv 0) rfl) TS.cl GW hr pass0 (pa_cons (pv 1) pa_nil)))), ?_⟩
    refine ⟨_, rfl, q, C, dx, _, _, rfl, hq, TQ.cl, TQ.nB, qf_certain _ _ _ _, _, rfl, b, _, _, _, rfl, rfl, SqL.of h2, tab_at _ rfl (by omega),
      _, rfl, q, C, dx, _, _, rfl, hq, TQ.cl, TQ.nS, qf_status _ _ _ _, sa, ds, _, rfl, hp, sf_no _ _ _ _ (by decide +kernel) (by decide +kernel) (by decide +kernel) (by decide +kernel), _, rfl, sa, Tb, st, t, rfl, hS, W, _, _, rfl, rfl, ⟨(cer_sm W.tab (fun t => anyC_le k m n t) (by omega)).fits, (alive_sm W.tab _).fits⟩, ?_⟩
    rw [Int.natCast_mul] at kQ
    exact kQ
def spWhole (c : CS) (C : Addr) : Sp := fun vs H Q _ => ∃ (q : Addr) (T : Sd49.Table) (s : Sd49.Status) (L k m n t : Nat), vs = [.ref q, .int (t : Nat)] ∧ ProAt c C H q T s L k m n ∧ WfS T s ∧ L ≤ 240 ∧ t ≤ 241 ∧ Q (.int ((wholeOf T s L t : Nat) : Int)) H
theorem scWhole : FnScope ["self", "when"] psW (defScope sWhole) := ⟨rfl, rfl, rfl, by decide +kernel, rfl, by decide +kernel, by decide +kernel⟩
theorem ok_whole {f C : Addr} {c : CS} {fd : FuncData} (F : Fun K "whole" "Prospect.whole" sWhole f fd) (TQ : TxProC K C) (TS : TxSt K mg c.s) (GW : GM P w K mg base CX0 c.s "ways" 3 psW (spWays c)) : FnOk P w K mg base CX0 4 f fd psW (spWhole c C) := by
  refine F.ok scWhole (fun vs H Q E h => ?_) (fun cdv A outer s H vs Q E hr h => ?_)
  · obtain ⟨q, T, s, L, k, m, n, t, rfl, _⟩ := h
    rfl
  · obtain ⟨q, Tb, st, L, k, m, n, t, rfl, ⟨dx, sa, a, b, d, hq, hS, h1, h2, h3⟩, W, hL, ht, kQ⟩ := h
    obtain ⟨ds, tb, y, hp, hy, hT⟩ := id hS
    have u1 := W.tab.up
    have u2 := W.tab.down
    refine ⟨_, pss_one (ps_ret (pe_op op_mulF (pe_ix ix_list (pe_fld (pv 0) rfl) (pv 1) (fun _ _ => rfl)) (pe_gm (pe_fld (pv 0) rfl) TS.cl GW hr pass0 (pa_cons (pv 1) pa_nil)))), ?_⟩
    refine ⟨_, rfl, q, C, dx, _, _, rfl, hq, TQ.cl, TQ.nA, qf_scales _ _ _ _, _, rfl, a, _, _, _, rfl, rfl, SqL.of h1, tab_at _ rfl (by omega),
      _, rfl, q, C, dx, _, _, rfl, hq, TQ.cl, TQ.nS, qf_status _ _ _ _, sa, ds, _, rfl, hp, sf_no _ _ _ _ (by decide +kernel) (by decide +kernel) (by decide +kernel) (by decide +kernel), _, rfl, sa, Tb, st, t, rfl, hS, W, _, _, rfl, rfl, ⟨(scF_sm (by omega) (by omega) hL).fits, (alive_sm W.tab _).fits⟩, ?_⟩
    unfold wholeOf at kQ
    rw [Int.natCast_mul] at kQ
    exact kQ
/-! ### worth -/
abbrev sWorth : Stmt := top 28
def spWorth (K : PySem.W.Frag) (R : Addr) (c : CS) (CP : Addr) : Sp := fun vs H Q E => ∃ (p a : Addr) (T : Sd49.Table) (s : Sd49.Status) (k m n : Nat), vs = [.ref p, .ref a] ∧ StAt c H p T s ∧ WfS T s ∧ PayAt CP H a k m n ∧ k ≤ 6 ∧ m ≤ 120 ∧ n ≤ 120 ∧
  Gives K R c.r H Q E (some (Sd49.worth T s 0 (Sd49.pays k m n)))
theorem scWorth : FnScope ["status", "payment", "prospect"] ["status", "payment"] (defScope sWorth) := ⟨rfl, rfl, rfl, by decide +kernel, rfl, by decide +kernel, by decide +kernel⟩
abbrev psQ : List Str := ["self", "status", "payment", "last"]
theorem ok_worth {f R CP C : Addr} {c : CS} {fd : FuncData} (F : Fun K "worth" "worth" sWorth f fd) (TQ : TxProC K C) (GQ : GC P w K mg base CX0 "Prospect" C 5 psQ (spProInit c CP C)) (GL : GF P w K mg base CX0 "last_paid" 3 ["status", "payment"] (spLastPaid c CP))
    (GP : GM P w K mg base CX0 C "parts" 4 psW (spParts c C)) (GH : GM P w K mg base CX0 C "whole" 4 psW (spWhole c C)) (GR : GC P w K mg base CX0 "Ratio" c.r 2 psR (spRatio c.r)) : FnOk P w K mg base CX0 7 f fd ["status", "payment"] (spWorth K R c CP) := by
  refine F.ok scWorth (fun vs H Q E h => ?_) (fun cdv A outer s H vs Q E hr h => ?_)
  · obtain ⟨p, a, T, s, k, m, n, rfl, _⟩ := h
    rfl
  · obtain ⟨p, a, Tb, st, k, m, n, rfl, hS, W, hP, hk, hm, hn, g⟩ := h
    refine ⟨_, pss_cons (ps_set (i := 2) scWorth.nd rfl (Or.inl rfl) (pe_gc GQ hr pass0 (pa_cons (pv 0) (pa_cons (pv 1) (pa_cons (pe_gf GL hr pass0 (pa_cons (pv 0) (pa_cons (pv 1) pa_nil))) pa_nil)))))
      (pss_one (ps_ret (pe_gc GR hr pass0 (pa_cons (pe_gm (pv 2) TQ.cl GP hr pass0 (pa_cons pe_int pa_nil)) (pa_cons (pe_gm (pv 2) TQ.cl GH hr pass0 (pa_cons pe_int pa_nil)) pa_nil))))), ?_⟩
    have hL : lastPaid Tb st k m n ≤ 240 := lastPaid_le hm hn
    refine ⟨_, rfl, _, rfl, _, rfl, _, rfl, p, a, Tb, st, k, m, n, rfl, hS, W, hP, ?_⟩
    intro z dz nz ndz nez
    refine ⟨H, z, dz, p, a, Tb, st, _, k, m, n, rfl, upd_same, nz, Same.new nz ndz, hS, W, hP, hn, hL, fun H2 S2 hQ => ⟨rfl, ?_⟩⟩
    obtain ⟨dq, sa, a1, b1, d1, hq, _⟩ := id hQ
    refine ⟨_, rfl, z, dq, _, rfl, hq, qf_no _ _ _ _ (by decide +kernel) (by decide +kernel) (by decide +kernel) (by decide +kernel), z, Tb, st, _, k, m, n, 0, rfl, hQ, W, hk, hn, hL, by decide, _, rfl, z, dq, _, rfl, hq, qf_no _ _ _ _ (by decide +kernel) (by decide +kernel) (by decide +kernel) (by decide +kernel), z, Tb, st, _, k, m, n, 0, rfl, hQ, W, hL, by decide, ?_⟩
    have i := is_parts (t := 0) W.tab (upto_of W.tab (s := st) (m := m) (n := n) hk (Nat.le_refl _)) W.there
    rw [left_zero] at i
    exact ratio_read (k := 2721) g rfl i (parts_sm W.tab hk hn hL 0) ((whole_sm W.tab hL 0).mono (by decide)) (by decide) S2
end
end LT
end
section
set_option linter.all false
set_option Elab.async false
set_option maxRecDepth 100000
set_option maxHeartbeats 2000000
namespace LT
open PySem PySem.Spec PyProof.Rows L2 LX
abbrev sConInit : Stmt := inClass (top 45) 0
abbrev sRP : Stmt := inClass (top 45) 1
abbrev sRW : Stmt := inClass (top 45) 2
abbrev sPP : Stmt := inClass (top 45) 3
abbrev sDP : Stmt := inClass (top 45) 4
abbrev sEP : Stmt := inClass (top 45) 5
def cf5 (s p pp tp tg : Addr) : List (Str × V) := putF "to_get" (.ref tg) (putF "to_pay" (.ref tp) (putF "premium_payment" (.ref pp) (putF "payment" (.ref p) (putF "status" (.ref s) []))))
def cf (s p pp tp tg : Addr) (a b : Int) : List (Str × V) := putF "first_to_get" (.int b) (putF "first_to_pay" (.int a) (cf5 s p pp tp tg))
section
variable (s p pp tp tg : Addr) (a b : Int)
theorem cf_status : (cf s p pp tp tg a b).lookup ("status" : Str) = some (.ref s) := by
  unfold cf cf5
  rw [lookup_putF, if_neg (by decide), lookup_putF, if_neg (by decide), lookup_putF, if_neg (by decide), lookup_putF, if_neg (by decide), lookup_putF, if_neg (by decide), lookup_putF, if_neg (by decide), lookup_putF, if_pos rfl]
theorem cf_payment : (cf s p pp tp tg a b).lookup ("payment" : Str) = some (.ref p) := by
  unfold cf cf5
  rw [lookup_putF, if_neg (by decide), lookup_putF, if_neg (by decide), lookup_putF, if_neg (by decide), lookup_putF, if_neg (by decide), lookup_putF, if_neg (by decide), lookup_putF, if_pos rfl]
theorem cf_premium : (cf s p pp tp tg a b).lookup ("premium_payment" : Str) = some (.ref pp) := by
  unfold cf cf5
  rw [lookup_putF, if_neg (by decide), lookup_putF, if_neg (by decide), lookup_putF, if_neg (by decide), lookup_putF, if_neg (by decide), lookup_putF, if_pos rfl]
theorem cf_toPay : (cf s p pp tp tg a b).lookup ("to_pay" : Str) = some (.ref tp) := by
  unfold cf cf5
  rw [lookup_putF, if_neg (by decide), lookup_putF, if_neg (by decide), lookup_putF, if_neg (by decide), lookup_putF, if_pos rfl]
theorem cf_toGet : (cf s p pp tp tg a b).lookup ("to_get" : Str) = some (.ref tg) := by
  unfold cf cf5
  rw [lookup_putF, if_neg (by decide), lookup_putF, if_neg (by decide), lookup_putF, if_pos rfl]
theorem cf5_toPay : (cf5 s p pp tp tg).lookup ("to_pay" : Str) = some (.ref tp) := by
  unfold cf5
  rw [lookup_putF, if_neg (by decide), lookup_putF, if_pos rfl]
theorem cf6_toGet : (putF "first_to_pay" (.int a) (cf5 s p pp tp tg)).lookup ("to_get" : Str) = some (.ref tg) := by
  unfold cf5
  rw [lookup_putF, if_neg (by decide), lookup_putF, if_pos rfl]
theorem cf_firstPay : (cf s p pp tp tg a b).lookup ("first_to_pay" : Str) = some (.int a) := by
  unfold cf
  rw [lookup_putF, if_neg (by decide), lookup_putF, if_pos rfl]
theorem cf_firstGet : (cf s p pp tp tg a b).lookup ("first_to_get" : Str) = some (.int b) := by
  unfold cf
  rw [lookup_putF, if_pos rfl]
theorem cf_no {m : Str} (h : m ∉ (["status", "payment", "premium_payment", "to_pay", "to_get", "first_to_pay", "first_to_get"] : List Str)) : (cf s p pp tp tg a b).lookup m = none := by
  simp only [List.mem_cons, not_or] at h
  obtain ⟨h1, h2, h3, h4, h5, h6, h7, _⟩ := h
  unfold cf cf5
  rw [lookup_putF, if_neg h7, lookup_putF, if_neg h6, lookup_putF, if_neg h5, lookup_putF, if_neg h4, lookup_putF, if_neg h3, lookup_putF, if_neg h2, lookup_putF, if_neg h1]
  rfl
end
structure TxCon (K : PySem.W.Frag) (mg : Str → Option Value) (C : Addr) : Prop where
  cl : Cls K C
  nS : NoAttr K C "status"
  nP : NoAttr K C "payment"
  nR : NoAttr K C "premium_payment"
  nT : NoAttr K C "to_pay"
  nG : NoAttr K C "to_get"
  nA : NoAttr K C "first_to_pay"
  nB : NoAttr K C "first_to_get"
  max : mg "max" = none
/-- the classes' places, all -/
structure CC extends CS where
  p : Addr
  q : Addr
  c : Addr
/-- the contract stands at a -/
def ConAt (z : CC) (H : Hp) (a : Addr) (T : Sd49.Table) (c : Sd49.Contract) (L : Nat) : Prop := ∃ dx s p pp tp tg, H a = some (.ins z.c dx (cf s p pp tp tg ((toPay T c L 0 : Nat) : Int) ((toGet T c L 0 : Nat) : Int))) ∧ StAt z.toCS H s T c.status ∧ PayAt z.p H p c.kind c.wait c.term ∧ PayAt z.p H pp 0 0 c.paying ∧
  ProAt z.toCS z.q H tp T c.status L c.kind c.wait c.term ∧ ProAt z.toCS z.q H tg T c.status L 0 0 c.paying
theorem ConAt.same {z : CC} {H H' : Hp} {a : Addr} {T : Sd49.Table} {c : Sd49.Contract} {L : Nat} (h : ConAt z H a T c L) (e : Same H H') : ConAt z H' a T c L := by
  obtain ⟨dx, s, p, pp, tp, tg, h1, h2, h3, h4, h5, h6⟩ := h
  exact ⟨dx, s, p, pp, tp, tg, e _ _ h1, h2.same e, h3.same e, h4.same e, h5.same e, h6.same e⟩
/-- Contract is none of the classes that it leans on -/
structure DisC (z : CC) : Prop where
  r : z.r ≠ z.c
  t : z.t ≠ z.c
  s : z.s ≠ z.c
  p : z.p ≠ z.c
  q : z.q ≠ z.c
theorem ins_ne {H : Hp} {a b C D da db : Addr} {fa fb : List (Str × V)} (h1 : H b = some (.ins D db fb)) (h2 : H a = some (.ins C da fa)) (n : D ≠ C) : b ≠ a := fun e => by
  rw [e, h2] at h1
  injection h1 with h1
  injection h1 with h1
  exact n h1.symm
theorem lst_ne {H : Hp} {a b C da : Addr} {fa : List (Str × V)} {xs : List V} (h1 : H b = some (.lst xs)) (h2 : H a = some (.ins C da fa)) : b ≠ a := ne_of h1 h2 (by intro z; cases z)
section
variable {z : CC} (D : DisC z) {H : Hp} {a da : Addr} {fa : List (Str × V)} {o : HO} (hA : H a = some (.ins z.c da fa))
include D hA
theorem StAt.put {b : Addr} {T : Sd49.Table} {s : Sd49.Status} (h : StAt z.toCS H b T s) : StAt z.toCS (upd H a o) b T s := by
  obtain ⟨dx, t, y, h1, h2, dt, r, l, dr, h3, h4, h5⟩ := h
  refine ⟨dx, t, y, by rw [upd_ne (ins_ne h1 hA D.s)]; exact h1, h2, dt, r, l, dr, ?_, ?_, ?_⟩
  · rw [upd_ne (ins_ne h3 hA D.t)]
    exact h3
  · rw [upd_ne (ins_ne h4 hA D.r)]
    exact h4
  · rw [upd_ne (lst_ne h5 hA)]
    exact h5
theorem PayAt.put {b : Addr} {k m n : Nat} (h : PayAt z.p H b k m n) : PayAt z.p (upd H a o) b k m n := by
  obtain ⟨dx, h1⟩ := h
  exact ⟨dx, by rw [upd_ne (ins_ne h1 hA D.p)]; exact h1⟩
theorem ProAt.put {b : Addr} {T : Sd49.Table} {s : Sd49.Status} {L k m n : Nat} (h : ProAt z.toCS z.q H b T s L k m n) : ProAt z.toCS z.q (upd H a o) b T s L k m n := by
  obtain ⟨dx, sa, x, y, w, h1, h2, h3, h4, h5⟩ := h
  refine ⟨dx, sa, x, y, w, by rw [upd_ne (ins_ne h1 hA D.q)]; exact h1, h2.put D hA, ?_, ?_, ?_⟩
  · rw [upd_ne (lst_ne h3 hA)]
    exact h3
  · rw [upd_ne (lst_ne h4 hA)]
    exact h4
  · rw [upd_ne (lst_ne h5 hA)]
    exact h5
end
structure WfK (T : Sd49.Table) (c : Sd49.Contract) (L : Nat) : Prop extends WfC T c L where
  st : WfS T c.status
section
variable {P : Program} {w : World} {K : PySem.W.Frag} {mg : Str → Option Value} {base : Heap}
/-! ### Contract.__init__ -/
def lastOf (T : Sd49.Table) (c : Sd49.Contract) : Nat := max (lastPaid T c.status c.kind c.wait c.term) (lastPaid T c.status 0 0 c.paying)
theorem wfK_of {T : Sd49.Table} {c : Sd49.Contract} (W : WfS T c.status) (hk : c.kind ≤ 6) (hm : c.wait ≤ 120) (hn : c.term ≤ 120) (hh : 1 ≤ c.paying ∧ c.paying ≤ 120) : WfK T c (lastOf T c) := by
  have a := lastPaid_le (T := T) (s := c.status) (k := c.kind) hm hn
  have b := lastPaid_le (T := T) (s := c.status) (k := 0) (m := 0) (by decide) hh.2
  refine ⟨⟨W.tab, hk, hm, hn, hh, W.there, ?_, ?_, ?_⟩, W⟩
  · unfold lastOf
    omega
  · exact upto_of W.tab hk (Nat.le_max_left _ _)
  · exact upto_of W.tab (by decide) (Nat.le_max_right _ _)
def spConInit (K : PySem.W.Frag) (R : Addr) (z : CC) : Sp := fun vs H Q E => ∃ (H0 : Hp) (a dx s p : Addr) (T : Sd49.Table) (st : Sd49.Status) (k m n : Nat) (h : Int), vs = [.ref a, .ref s, .ref p, .int h] ∧ H a = some (.ins z.c dx []) ∧ H0 a = none ∧ Same H0 H ∧ StAt z.toCS H0 s T st ∧ WfS T st ∧ PayAt z.p H0 p k m n ∧ k ≤ 6 ∧ m ≤ 120 ∧ n ≤ 120 ∧
  (¬ (1 ≤ h ∧ h ≤ 120) → RefE K R H0 (-2) E) ∧ ((1 ≤ h ∧ h ≤ 120) → ∀ H' : Hp, Same H0 H' → ConAt z H' a T ⟨st, k, m, n, h.toNat⟩ (lastOf T ⟨st, k, m, n, h.toNat⟩) → Q .non H')
abbrev psK : List Str := ["self", "status", "payment", "premium_years"]
theorem scConInit : FnScope ["self", "status", "payment", "premium_years", "last"] psK (defScope sConInit) := ⟨rfl, rfl, rfl, by decide +kernel, rfl, by decide +kernel, by decide +kernel⟩
theorem ok_conInit {f R : Addr} {z : CC} {fd : FuncData} (F : Fun K "__init__" "Contract.__init__" sConInit f fd) (D : DisC z) (T : TxCon K mg z.c) (TQ : TxProC K z.q) (TP : TxPay K mg z.p) (GD : GF P w K mg base (CXR P w) "demand_within" 4 psD (spDemand K R))
    (GY : GC P w K mg base (CXR P w) "Payment" z.p 5 ["self", "kind", "wait", "years"] (spPayInit K R z.p)) (GL : GF P w K mg base CX0 "last_paid" 3 ["status", "payment"] (spLastPaid z.toCS z.p))
    (GQ : GC P w K mg base CX0 "Prospect" z.q 5 psQ (spProInit z.toCS z.p z.q)) (GP : GM P w K mg base CX0 z.q "parts" 4 psW (spParts z.toCS z.q)) : FnOk P w K mg base (CXR P w) 7 f fd psK (spConInit K R z) := by
  refine F.okX scConInit (fun vs H Q E h => ?_) (fun cdv A outer s H vs Q E hr h => ?_)
  · obtain ⟨H0, a, dx, s, p, T, st, k, m, n, h, rfl, _⟩ := h
    rfl
  · obtain ⟨H0, a, dx, sa, p, Tb, st, k, m, n, h, rfl, ha, n0, s0, hS, W, hP, hk, hm, hn, kE, kQ⟩ := h
    refine ⟨_, pss_cons (ps_expr (pe_gf GD hr pass_cx (pa_cons (pv 3) (pa_cons pe_int (pa_cons (pe_cst rfl TP.years) pa_nil)))))
      (pss_cons (ps_fld (pv 0) (pv 1) rfl) (pss_cons (ps_fld (pv 0) (pv 2) rfl)
      (pss_cons (ps_fld (pv 0) (pe_gc GY hr pass_cx (pa_cons (pe_cst rfl TP.k0) (pa_cons pe_int (pa_cons (pv 3) pa_nil)))) rfl)
      (pss_cons (ps_set (i := 4) scConInit.nd rfl (Or.inl rfl) (pe_callB (call_max2 rfl) rfl T.max boot_max (pa_cons (pe_gf GL hr pass0 (pa_cons (pv 1) (pa_cons (pv 2) pa_nil))) (pa_cons (pe_gf GL hr pass0 (pa_cons (pv 1) (pa_cons (pe_fld (pv 0) rfl) pa_nil))) pa_nil))))
      (pss_cons (ps_fld (pv 0) (pe_gc GQ hr pass0 (pa_cons (pv 1) (pa_cons (pv 2) (pa_cons (pv 4) pa_nil)))) rfl)
      (pss_cons (ps_fld (pv 0) (pe_gc GQ hr pass0 (pa_cons (pv 1) (pa_cons (pe_fld (pv 0) rfl) (pa_cons (pv 4) pa_nil)))) rfl)
      (pss_cons (ps_fld (pv 0) (pe_gm (pe_fld (pv 0) rfl) TQ.cl GP hr pass0 (pa_cons pe_int pa_nil)) rfl)
      (pss_one (ps_fld (pv 0) (pe_gm (pe_fld (pv 0) rfl) TQ.cl GP hr pass0 (pa_cons pe_int pa_nil)) rfl))))))))), ?_⟩
    refine ⟨_, rfl, h, 1, 120, rfl, fun c1 => ?_, fun c1 => (kE c1).mono s0⟩
    have kQ' := kQ c1
    obtain ⟨hn0, eh⟩ : ∃ x : Nat, h = (x : Int) := ⟨h.toNat, by omega⟩
    subst eh
    rw [Int.toNat_natCast] at kQ'
    have hh : 1 ≤ hn0 ∧ hn0 ≤ 120 := by omega
    refine ⟨_, rfl, _, rfl, a, z.c, dx, _, rfl, ha, T.cl, T.nS, (by show 0 < 1000; decide), ?_⟩
    refine ⟨_, rfl, _, rfl, a, z.c, dx, _, rfl, upd_same, T.cl, T.nP, (by show 1 < 1000; decide), ?_⟩
    have T2 : Same H0 (upd (upd H a (.ins z.c dx (putF "status" (.ref sa) []))) a (.ins z.c dx (putF "payment" (.ref p) (putF "status" (.ref sa) [])))) := (s0.put n0).put n0
    -- the premiums' payment
    refine ⟨_, rfl, ?_⟩
    intro x1 d1 nx1 nd1 ne1
    refine ⟨_, x1, d1, 0, 0, (hn0 : Int), rfl, upd_same, nx1, Same.new nx1 nd1, fun c => absurd ⟨⟨by decide, by decide⟩, ⟨by decide, by decide⟩, ⟨by omega, by omega⟩⟩ c, fun _ H3 S3 hPP => ⟨rfl, ?_⟩⟩
    have hPP0 : PayAt z.p H3 x1 0 0 hn0 := hPP
    have a3 := S3 _ _ (upd_same (H := upd H a (.ins z.c dx (putF "status" (.ref sa) []))) (a := a) (o := HO.ins z.c dx (putF "payment" (.ref p) (putF "status" (.ref sa) []))))
    have T3 : Same H0 H3 := T2.trans S3
    obtain ⟨dp1, hx1⟩ := id hPP0
    have nx1a : x1 ≠ a := fun e => by
      rw [e, upd_same] at nx1
      cases nx1
    refine ⟨_, rfl, a, z.c, dx, _, rfl, a3, T.cl, T.nR, (by show 2 < 1000; decide), ?_⟩
    have T4 : Same H0 (upd H3 a (.ins z.c dx (putF "premium_payment" (.ref x1) (putF "payment" (.ref p) (putF "status" (.ref sa) []))))) := T3.put n0
    have hPP4 : PayAt z.p (upd H3 a (.ins z.c dx (putF "premium_payment" (.ref x1) (putF "payment" (.ref p) (putF "status" (.ref sa) []))))) x1 0 0 hn0 := ⟨dp1, by rw [upd_ne nx1a]; exact hx1⟩
    -- last
    refine ⟨_, rfl, _, rfl, sa, p, Tb, st, k, m, n, rfl, hS.same T4, W, hP.same T4, _, rfl, _, rfl, a, z.c, dx, _, _, rfl, upd_same, T.cl, T.nR, (by rw [lookup_putF, if_pos rfl]), sa, x1, Tb, st, 0, 0, hn0, rfl, hS.same T4, W, hPP4, _, _, rfl, ?_⟩
    have eL : (if ((lastPaid Tb st 0 0 hn0 : Nat) : Int) > ((lastPaid Tb st k m n : Nat) : Int) then ((lastPaid Tb st 0 0 hn0 : Nat) : Int) else ((lastPaid Tb st k m n : Nat) : Int)) = ((lastOf Tb ⟨st, k, m, n, hn0⟩ : Nat) : Int) := by
      unfold lastOf
      dsimp only
      split <;> omega
    rw [eL]
    have WK : WfK Tb ⟨st, k, m, n, hn0⟩ (lastOf Tb ⟨st, k, m, n, hn0⟩) := wfK_of W hk hm hn hh
    generalize lastOf Tb ⟨st, k, m, n, hn0⟩ = L at WK kQ' ⊢
    have hL := WK.last
    -- to_pay
    refine ⟨_, rfl, _, rfl, _, rfl, ?_⟩
    intro x2 d2 nx2 nd2 ne2
    refine ⟨_, x2, d2, sa, p, Tb, st, L, k, m, n, rfl, upd_same, nx2, Same.new nx2 nd2, hS.same T4, W, hP.same T4, hn, hL, fun H5 S5 hQ5 => ⟨rfl, ?_⟩⟩
    have a5 := S5 _ _ (upd_same (H := H3) (a := a) (o := HO.ins z.c dx (putF "premium_payment" (.ref x1) (putF "payment" (.ref p) (putF "status" (.ref sa) [])))))
    have T5 : Same H0 H5 := T4.trans S5
    have hPP5 := hPP4.same S5
    refine ⟨_, rfl, a, z.c, dx, _, rfl, a5, T.cl, T.nT, (by show 3 < 1000; decide), ?_⟩
    have T6 : Same H0 (upd H5 a (.ins z.c dx (putF "to_pay" (.ref x2) (putF "premium_payment" (.ref x1) (putF "payment" (.ref p) (putF "status" (.ref sa) [])))))) := T5.put n0
    have hPP6 := hPP5.put D a5 (o := .ins z.c dx (putF "to_pay" (.ref x2) (putF "premium_payment" (.ref x1) (putF "payment" (.ref p) (putF "status" (.ref sa) [])))))
    have hQ6 := hQ5.put D a5 (o := .ins z.c dx (putF "to_pay" (.ref x2) (putF "premium_payment" (.ref x1) (putF "payment" (.ref p) (putF "status" (.ref sa) [])))))
    -- to_get
    refine ⟨_, rfl, _, rfl, a, z.c, dx, _, _, rfl, upd_same, T.cl, T.nR, (by rw [lookup_putF, if_neg (by decide), lookup_putF, if_pos rfl]), _, rfl, ?_⟩
    intro x3 d3 nx3 nd3 ne3
    refine ⟨_, x3, d3, sa, x1, Tb, st, L, 0, 0, hn0, rfl, upd_same, nx3, Same.new nx3 nd3, hS.same T6, W, hPP6, hh.2, hL, fun H7 S7 hG7 => ⟨rfl, ?_⟩⟩
    have a7 := S7 _ _ (upd_same (H := H5) (a := a) (o := HO.ins z.c dx (putF "to_pay" (.ref x2) (putF "premium_payment" (.ref x1) (putF "payment" (.ref p) (putF "status" (.ref sa) []))))))
    have T7 : Same H0 H7 := T6.trans S7
    have hPP7 := hPP6.same S7
    have hQ7 := hQ6.same S7
    refine ⟨_, rfl, a, z.c, dx, _, rfl, a7, T.cl, T.nG, (by show 4 < 1000; decide), ?_⟩
    have T8 : Same H0 (upd H7 a (.ins z.c dx (cf5 sa p x1 x2 x3))) := T7.put n0
    have hPP8 := hPP7.put D a7 (o := .ins z.c dx (cf5 sa p x1 x2 x3))
    have hQ8 := hQ7.put D a7 (o := .ins z.c dx (cf5 sa p x1 x2 x3))
    have hG8 := hG7.put D a7 (o := .ins z.c dx (cf5 sa p x1 x2 x3))
    obtain ⟨dq8, _, _, _, _, hq8, _⟩ := id hQ8
    obtain ⟨dg8, _, _, _, _, hg8, _⟩ := id hG8
    -- the first worths
    refine ⟨_, rfl, a, z.c, dx, _, _, rfl, upd_same, T.cl, T.nT, cf5_toPay sa p x1 x2 x3, x2, dq8, _, rfl, hq8, qf_no _ _ _ _ (by decide +kernel) (by decide +kernel) (by decide +kernel) (by decide +kernel), x2, Tb, st, L, k, m, n, 0, rfl, hQ8, W, hk, hn, hL, by decide, ?_⟩
    refine ⟨_, rfl, a, z.c, dx, _, rfl, upd_same, T.cl, T.nA, (by show 5 < 1000; decide), ?_⟩
    have a9 : upd (upd H7 a (.ins z.c dx (cf5 sa p x1 x2 x3))) a (.ins z.c dx (putF "first_to_pay" (.int ((partsOf Tb st L (Sd49.pays k m n) 0 : Nat) : Int)) (cf5 sa p x1 x2 x3))) a = some (.ins z.c dx (putF "first_to_pay" (.int ((partsOf Tb st L (Sd49.pays k m n) 0 : Nat) : Int)) (cf5 sa p x1 x2 x3))) := upd_same
    have T9 : Same H0 (upd (upd H7 a (.ins z.c dx (cf5 sa p x1 x2 x3))) a (.ins z.c dx (putF "first_to_pay" (.int ((partsOf Tb st L (Sd49.pays k m n) 0 : Nat) : Int)) (cf5 sa p x1 x2 x3)))) := T8.put n0
    have a8 : upd H7 a (.ins z.c dx (cf5 sa p x1 x2 x3)) a = some (.ins z.c dx (cf5 sa p x1 x2 x3)) := upd_same
    have hPP9 := hPP8.put D a8 (o := .ins z.c dx (putF "first_to_pay" (.int ((partsOf Tb st L (Sd49.pays k m n) 0 : Nat) : Int)) (cf5 sa p x1 x2 x3)))
    have hQ9 := hQ8.put D a8 (o := .ins z.c dx (putF "first_to_pay" (.int ((partsOf Tb st L (Sd49.pays k m n) 0 : Nat) : Int)) (cf5 sa p x1 x2 x3)))
    have hG9 := hG8.put D a8 (o := .ins z.c dx (putF "first_to_pay" (.int ((partsOf Tb st L (Sd49.pays k m n) 0 : Nat) : Int)) (cf5 sa p x1 x2 x3)))
    obtain ⟨dg9, _, _, _, _, hg9, _⟩ := id hG9
    refine ⟨_, rfl, a, z.c, dx, _, _, rfl, a9, T.cl, T.nG, cf6_toGet sa p x1 x2 x3 _, x3, dg9, _, rfl, hg9, qf_no _ _ _ _ (by decide +kernel) (by decide +kernel) (by decide +kernel) (by decide +kernel), x3, Tb, st, L, 0, 0, hn0, 0, rfl, hG9, W, by decide, hh.2, hL, by decide, ?_⟩
    refine ⟨_, rfl, a, z.c, dx, _, rfl, a9, T.cl, T.nB, (by show 6 < 1000; decide), ?_⟩
    have T10 := T9.put n0 (o := .ins z.c dx (cf sa p x1 x2 x3 ((partsOf Tb st L (Sd49.pays k m n) 0 : Nat) : Int) ((partsOf Tb st L (Sd49.pays 0 0 hn0) 0 : Nat) : Int)))
    refine kQ' _ T10 ⟨dx, sa, p, x1, x2, x3, upd_same, hS.same T10, hP.same T10, hPP9.put D a9, hQ9.put D a9, hG9.put D a9⟩
/-! ### Contract's numbers -/
def spCon (z : CC) (v : Sd49.Table → Sd49.Contract → Nat → Nat → Int) : Sp := fun vs H Q _ => ∃ (a : Addr) (T : Sd49.Table) (c : Sd49.Contract) (L t : Nat), vs = [.ref a, .int (t : Nat)] ∧ ConAt z H a T c L ∧ WfK T c L ∧ t ≤ 241 ∧ ∀ H', Same H H' → Q (.int (v T c L t)) H'
theorem qf_not (s a b d : Addr) {m : Str} (h : m ∉ (["status", "scales", "certain", "uncertain"] : List Str)) : (qf s a b d).lookup m = none := by
  simp only [List.mem_cons, not_or] at h
  obtain ⟨h1, h2, h3, h4, _⟩ := h
  exact qf_no _ _ _ _ h1 h2 h3 h4
theorem scRP : FnScope ["self", "when"] psW (defScope sRP) := ⟨rfl, rfl, rfl, by decide +kernel, rfl, by decide +kernel, by decide +kernel⟩
theorem ok_rp {f : Addr} {z : CC} {fd : FuncData} (F : Fun K "reserve_parts" "Contract.reserve_parts" sRP f fd) (T : TxCon K mg z.c) (TQ : TxProC K z.q) (GP : GM P w K mg base CX0 z.q "parts" 4 psW (spParts z.toCS z.q)) : FnOk P w K mg base CX0 5 f fd psW (spCon z rParts) := by
  refine F.ok scRP (fun vs H Q E h => ?_) (fun cdv A outer s H vs Q E hr h => ?_)
  · obtain ⟨a, T, c, L, t, rfl, _⟩ := h
    rfl
  · obtain ⟨a, Tb, c, L, t, rfl, ⟨dx, s, p, pp, tp, tg, ha, hS, hP, hPP, hQ, hG⟩, W, ht, kQ⟩ := h
    try dsimp only at kQ
    obtain ⟨dq, _, _, _, _, hq, _⟩ := id hQ
    obtain ⟨dg, _, _, _, _, hg, _⟩ := id hG
    refine ⟨_, pss_one (ps_ret (pe_op op_sub (pe_op op_mulF (pe_gm (pe_fld (pv 0) rfl) TQ.cl GP hr pass0 (pa_cons (pv 1) pa_nil)) (pe_fld (pv 0) rfl)) (pe_op op_mulF (pe_fld (pv 0) rfl) (pe_gm (pe_fld (pv 0) rfl) TQ.cl GP hr pass0 (pa_cons (pv 1) pa_nil))))), ?_⟩
    refine ⟨_, rfl, a, z.c, dx, _, _, rfl, ha, T.cl, T.nT, cf_toPay _ _ _ _ _ _ _, tp, dq, _, rfl, hq, qf_not _ _ _ _ (by decide +kernel), _, rfl, tp, Tb, c.status, L, c.kind, c.wait, c.term, t, rfl, hQ, W.st, W.kind, W.term, W.last, ht,
      _, rfl, a, z.c, dx, _, _, rfl, ha, T.cl, T.nB, cf_firstGet _ _ _ _ _ _ _, _, _, rfl, rfl, ⟨(W.pay_sm t).fits, (W.get_sm 0).fits⟩,
      _, rfl, a, z.c, dx, _, _, rfl, ha, T.cl, T.nA, cf_firstPay _ _ _ _ _ _ _, _, rfl, a, z.c, dx, _, _, rfl, ha, T.cl, T.nG, cf_toGet _ _ _ _ _ _ _, tg, dg, _, rfl, hg, qf_not _ _ _ _ (by decide +kernel), _, rfl, tg, Tb, c.status, L, 0, 0, c.paying, t, rfl, hG, W.st, by decide, W.pay.2, W.last, ht,
      _, _, rfl, rfl, ⟨(W.pay_sm 0).fits, (W.get_sm t).fits⟩, _, _, rfl, rfl, ?_⟩
    exact kQ H (fun _ _ e => e)
theorem scRW : FnScope ["self", "when"] psW (defScope sRW) := ⟨rfl, rfl, rfl, by decide +kernel, rfl, by decide +kernel, by decide +kernel⟩
theorem ok_rw {f : Addr} {z : CC} {fd : FuncData} (F : Fun K "reserve_whole" "Contract.reserve_whole" sRW f fd) (T : TxCon K mg z.c) (TQ : TxProC K z.q) (GH : GM P w K mg base CX0 z.q "whole" 4 psW (spWhole z.toCS z.q)) : FnOk P w K mg base CX0 5 f fd psW (spCon z fun T c L t => ((rWhole T c L t : Nat) : Int)) := by
  refine F.ok scRW (fun vs H Q E h => ?_) (fun cdv A outer s H vs Q E hr h => ?_)
  · obtain ⟨a, T, c, L, t, rfl, _⟩ := h
    rfl
  · obtain ⟨a, Tb, c, L, t, rfl, ⟨dx, s, p, pp, tp, tg, ha, hS, hP, hPP, hQ, hG⟩, W, ht, kQ⟩ := h
    try dsimp only at kQ
    obtain ⟨dq, _, _, _, _, hq, _⟩ := id hQ
    refine ⟨_, pss_one (ps_ret (pe_op op_mulF (pe_gm (pe_fld (pv 0) rfl) TQ.cl GH hr pass0 (pa_cons (pv 1) pa_nil)) (pe_fld (pv 0) rfl))), ?_⟩
    refine ⟨_, rfl, a, z.c, dx, _, _, rfl, ha, T.cl, T.nT, cf_toPay _ _ _ _ _ _ _, tp, dq, _, rfl, hq, qf_not _ _ _ _ (by decide +kernel), _, rfl, tp, Tb, c.status, L, c.kind, c.wait, c.term, t, rfl, hQ, W.st, W.last, ht,
      _, rfl, a, z.c, dx, _, _, rfl, ha, T.cl, T.nB, cf_firstGet _ _ _ _ _ _ _, _, _, rfl, rfl, ⟨(W.whole_sm t).fits, (W.get_sm 0).fits⟩, ?_⟩
    have := kQ H (fun _ _ e => e)
    unfold rWhole at this
    rw [Int.natCast_mul] at this
    exact this
theorem scPP : FnScope ["self", "when"] psW (defScope sPP) := ⟨rfl, rfl, rfl, by decide +kernel, rfl, by decide +kernel, by decide +kernel⟩
theorem ok_pp {f : Addr} {z : CC} {fd : FuncData} (F : Fun K "premium_parts" "Contract.premium_parts" sPP f fd) (T : TxCon K mg z.c) (TQ : TxProC K z.q) (TP : TxPay K mg z.p) (GI : GM P w K mg base CX0 z.p "if_there" 3 psW (spIfT z.p)) (GH : GM P w K mg base CX0 z.q "whole" 4 psW (spWhole z.toCS z.q)) :
    FnOk P w K mg base CX0 5 f fd psW (spCon z fun T c L t => ((ifT 0 0 c.paying t * toPay T c L 0 * wholeOf T c.status L t : Nat) : Int)) := by
  refine F.ok scPP (fun vs H Q E h => ?_) (fun cdv A outer s H vs Q E hr h => ?_)
  · obtain ⟨a, T, c, L, t, rfl, _⟩ := h
    rfl
  · obtain ⟨a, Tb, c, L, t, rfl, ⟨dx, s, p, pp, tp, tg, ha, hS, hP, hPP, hQ, hG⟩, W, ht, kQ⟩ := h
    try dsimp only at kQ
    obtain ⟨dq, _, _, _, _, hq, _⟩ := id hQ
    obtain ⟨dp, hp⟩ := id hPP
    refine ⟨_, pss_one (ps_ret (pe_op op_mulF (pe_op op_mulF (pe_gm (pe_fld (pv 0) rfl) TP.cl GI hr pass0 (pa_cons (pv 1) pa_nil)) (pe_fld (pv 0) rfl)) (pe_gm (pe_fld (pv 0) rfl) TQ.cl GH hr pass0 (pa_cons (pv 1) pa_nil)))), ?_⟩
    refine ⟨_, rfl, a, z.c, dx, _, _, rfl, ha, T.cl, T.nR, cf_premium _ _ _ _ _ _ _, pp, dp, _, rfl, hp, pf_no _ _ _ (by decide +kernel) (by decide +kernel) (by decide +kernel), _, rfl, pp, 0, 0, c.paying, t, rfl, hPP, fun H2 S2 => ?_⟩
    have smI : Sm 1 ((ifT 0 0 c.paying t : Nat) : Int) := sm_nat (by have := ifT_le 0 0 c.paying t; show _ < 2; omega)
    refine ⟨_, rfl, a, z.c, dx, _, _, rfl, S2 _ _ ha, T.cl, T.nA, cf_firstPay _ _ _ _ _ _ _, _, _, rfl, rfl, ⟨smI.fits, (W.pay_sm 0).fits⟩,
      _, rfl, a, z.c, dx, _, _, rfl, S2 _ _ ha, T.cl, T.nT, cf_toPay _ _ _ _ _ _ _, tp, dq, _, rfl, S2 _ _ hq, qf_not _ _ _ _ (by decide +kernel), _, rfl, tp, Tb, c.status, L, c.kind, c.wait, c.term, t, rfl, hQ.same S2, W.st, W.last, ht, _, _, rfl, rfl, ⟨(smI.mul (W.pay_sm 0)).fits, (W.whole_sm t).fits⟩, ?_⟩
    have := kQ H2 S2
    rw [Int.natCast_mul, Int.natCast_mul] at this
    exact this
theorem scDP : FnScope ["self", "when", "due"] psW (defScope sDP) := ⟨rfl, rfl, rfl, by decide +kernel, rfl, by decide +kernel, by decide +kernel⟩
theorem ok_dp {f : Addr} {z : CC} {fd : FuncData} (F : Fun K "due_parts" "Contract.due_parts" sDP f fd) (T : TxCon K mg z.c) (TP : TxPay K mg z.p) (GI : GM P w K mg base CX0 z.p "if_there" 3 psW (spIfT z.p)) (GA : GM P w K mg base CX0 z.p "in_any_case" 3 psW (spAny z.p))
    (GRW : GM P w K mg base CX0 z.c "reserve_whole" 5 psW (spCon z fun T c L t => ((rWhole T c L t : Nat) : Int))) :
    FnOk P w K mg base CX0 6 f fd psW (spCon z fun T c L t => ((amt .living (Sd49.benefits c) t + amt .sure (Sd49.benefits c) t : Nat) : Int) * ((rWhole T c L t : Nat) : Int)) := by
  refine F.ok scDP (fun vs H Q E h => ?_) (fun cdv A outer s H vs Q E hr h => ?_)
  · obtain ⟨a, T, c, L, t, rfl, _⟩ := h
    rfl
  · obtain ⟨a, Tb, c, L, t, rfl, hC, W, ht, kQ⟩ := h
    try dsimp only at kQ
    obtain ⟨dx, s, p, pp, tp, tg, ha, hS, hP, hPP, hQ, hG⟩ := id hC
    obtain ⟨dp, hp⟩ := id hP
    refine ⟨_, pss_cons (ps_set (i := 2) scDP.nd rfl (Or.inl rfl) (pe_op op_add (pe_gm (pe_fld (pv 0) rfl) TP.cl GI hr pass0 (pa_cons (pv 1) pa_nil)) (pe_gm (pe_fld (pv 0) rfl) TP.cl GA hr pass0 (pa_cons (pv 1) pa_nil))))
      (pss_one (ps_ret (pe_op op_mulF (pv 2) (pe_gm (pv 0) T.cl GRW hr pass0 (pa_cons (pv 1) pa_nil))))), ?_⟩
    have pn : ∀ {x : Str}, ¬ x = "kind" → ¬ x = "wait" → ¬ x = "years" → (pf (c.kind : Nat) (c.wait : Nat) (c.term : Nat)).lookup x = none := fun h1 h2 h3 => pf_no _ _ _ h1 h2 h3
    refine ⟨_, rfl, a, z.c, dx, _, _, rfl, ha, T.cl, T.nP, cf_payment _ _ _ _ _ _ _, p, dp, _, rfl, hp, pn (by decide +kernel) (by decide +kernel) (by decide +kernel), _, rfl, p, c.kind, c.wait, c.term, t, rfl, hP, fun H2 S2 => ?_⟩
    refine ⟨_, rfl, a, z.c, dx, _, _, rfl, S2 _ _ ha, T.cl, T.nP, cf_payment _ _ _ _ _ _ _, p, dp, _, rfl, S2 _ _ hp, pn (by decide +kernel) (by decide +kernel) (by decide +kernel), _, rfl, p, c.kind, c.wait, c.term, t, rfl, hP.same S2, _, _, rfl, rfl, ?_⟩
    have ed : ((ifT c.kind c.wait c.term t : Nat) : Int) + ((anyC c.kind c.wait c.term t : Nat) : Int) = ((amt .living (Sd49.benefits c) t + amt .sure (Sd49.benefits c) t : Nat) : Int) := by
      unfold Sd49.benefits
      rw [amt_sure W.kind, amt_living W.kind, Int.natCast_add]
    try dsimp only
    rw [ed]
    refine ⟨_, rfl, _, rfl, a, dx, _, rfl, S2 _ _ ha, cf_no _ _ _ _ _ _ _ (by decide +kernel), _, rfl, a, Tb, c, L, t, rfl, hC.same S2, W, ht, fun H3 S3 => ⟨_, _, rfl, rfl, ⟨(W.due_sm t).fits, (W.rw_sm t).fits⟩, ?_⟩⟩
    exact kQ H3 (S2.trans S3)
theorem scEP : FnScope ["self", "when", "at_once"] psW (defScope sEP) := ⟨rfl, rfl, rfl, by decide +kernel, rfl, by decide +kernel, by decide +kernel⟩
theorem ok_ep {f : Addr} {z : CC} {fd : FuncData} (F : Fun K "ended_parts" "Contract.ended_parts" sEP f fd) (T : TxCon K mg z.c) (TP : TxPay K mg z.p) (TQ : TxProC K z.q) (GE : GM P w K mg base CX0 z.p "for_its_end" 3 psW (spEndP z.p)) (GA : GM P w K mg base CX0 z.q "parts_in_any_case" 4 psW (spPartsAny z.toCS z.q))
    (GRW : GM P w K mg base CX0 z.c "reserve_whole" 5 psW (spCon z fun T c L t => ((rWhole T c L t : Nat) : Int))) :
    FnOk P w K mg base CX0 6 f fd psW (spCon z fun T c L t => ((endParts T c L t : Nat) : Int)) := by
  refine F.ok scEP (fun vs H Q E h => ?_) (fun cdv A outer s H vs Q E hr h => ?_)
  · obtain ⟨a, T, c, L, t, rfl, _⟩ := h
    rfl
  · obtain ⟨a, Tb, c, L, t, rfl, hC, W, ht, kQ⟩ := h
    try dsimp only at kQ
    obtain ⟨dx, s, p, pp, tp, tg, ha, hS, hP, hPP, hQ, hG⟩ := id hC
    obtain ⟨dp, hp⟩ := id hP
    obtain ⟨dq, _, _, _, _, hq, _⟩ := id hQ
    refine ⟨_, pss_cons (ps_set (i := 2) scEP.nd rfl (Or.inl rfl) (pe_op op_mulF (pe_gm (pe_fld (pv 0) rfl) TP.cl GE hr pass0 (pa_cons (pv 1) pa_nil)) (pe_gm (pv 0) T.cl GRW hr pass0 (pa_cons (pv 1) pa_nil))))
      (pss_one (ps_ret (pe_op op_add (pv 2) (pe_op op_mulF (pe_gm (pe_fld (pv 0) rfl) TQ.cl GA hr pass0 (pa_cons (pv 1) pa_nil)) (pe_fld (pv 0) rfl))))), ?_⟩
    have ee : amt .dying (Sd49.benefits c) t = endP c.kind c.wait c.term t := amt_dying W.kind _ _ _
    have es : sureP Tb c L t = cerF (Tb.up + Tb.down) Tb.down L c.kind c.wait c.term t * Sd49.alive Tb c.status t := by
      have e3 : amt .sure (Sd49.benefits c) = anyC c.kind c.wait c.term := funext fun t => amt_sure W.kind _ _ t
      unfold sureP cerF
      rw [e3]
    refine ⟨_, rfl, a, z.c, dx, _, _, rfl, ha, T.cl, T.nP, cf_payment _ _ _ _ _ _ _, p, dp, _, rfl, hp, pf_no _ _ _ (by decide +kernel) (by decide +kernel) (by decide +kernel), _, rfl, p, c.kind, c.wait, c.term, t, rfl, hP, fun H2 S2 => ?_⟩
    refine ⟨_, rfl, a, dx, _, rfl, S2 _ _ ha, cf_no _ _ _ _ _ _ _ (by decide +kernel), _, rfl, a, Tb, c, L, t, rfl, hC.same S2, W, ht, fun H3 S3 => ?_⟩
    have T3 := S2.trans S3
    have smE := W.end_sm t
    rw [ee] at smE
    have smS := W.sure_sm t
    rw [es] at smS
    refine ⟨_, _, rfl, rfl, ⟨smE.fits, (W.rw_sm t).fits⟩, ?_⟩
    refine ⟨_, rfl, _, rfl, a, z.c, dx, _, _, rfl, T3 _ _ ha, T.cl, T.nT, cf_toPay _ _ _ _ _ _ _, tp, dq, _, rfl, T3 _ _ hq, qf_not _ _ _ _ (by decide +kernel), _, rfl, tp, Tb, c.status, L, c.kind, c.wait, c.term, t, rfl, hQ.same T3, W.st, W.last, ht,
      _, rfl, a, z.c, dx, _, _, rfl, T3 _ _ ha, T.cl, T.nB, cf_firstGet _ _ _ _ _ _ _, _, _, rfl, rfl, ⟨smS.fits, (W.get_sm 0).fits⟩, _, _, rfl, rfl, ?_⟩
    have := kQ H3 T3
    unfold endParts at this
    rw [ee, es, Int.natCast_add, Int.natCast_mul, Int.natCast_mul (cerF (Tb.up + Tb.down) Tb.down L c.kind c.wait c.term t * Sd49.alive Tb c.status t)] at this
    exact this
end
end LT
end
section
set_option linter.all false
set_option Elab.async false
set_option maxRecDepth 100000
set_option maxHeartbeats 2000000
namespace LT
open PySem PySem.Spec PyProof.Rows L2 LX
abbrev sDiff : Stmt := top 20
abbrev sYearInit : Stmt := inClass (top 46) 0
abbrev sPrem : Stmt := top 47
abbrev sReserve : Stmt := top 48
abbrev sPaid : Stmt := top 49
abbrev sGain : Stmt := top 50
def yf (a d e f : Int) : List (Str × V) := putF "rate_bottom" (.int f) (putF "rate_top" (.int e) (putF "ended" (.int d) (putF "contracts" (.int a) [])))
section
variable (a d e f : Int)
theorem yf_contracts : (yf a d e f).lookup ("contracts" : Str) = some (.int a) := by
  unfold yf
  rw [lookup_putF, if_neg (by decide), lookup_putF, if_neg (by decide), lookup_putF, if_neg (by decide), lookup_putF, if_pos rfl]
theorem yf_ended : (yf a d e f).lookup ("ended" : Str) = some (.int d) := by
  unfold yf
  rw [lookup_putF, if_neg (by decide), lookup_putF, if_neg (by decide), lookup_putF, if_pos rfl]
theorem yf_top : (yf a d e f).lookup ("rate_top" : Str) = some (.int e) := by
  unfold yf
  rw [lookup_putF, if_neg (by decide), lookup_putF, if_pos rfl]
theorem yf_bottom : (yf a d e f).lookup ("rate_bottom" : Str) = some (.int f) := by
  unfold yf
  rw [lookup_putF, if_pos rfl]
end
def YearAt (C : Addr) (H : Hp) (p : Addr) (a d e f : Nat) : Prop := ∃ dx, H p = some (.ins C dx (yf (a : Nat) (d : Nat) (e : Nat) (f : Nat)))
theorem YearAt.same {C : Addr} {H H' : Hp} {p : Addr} {a d e f : Nat} (h : YearAt C H p a d e f) (s : Same H H') : YearAt C H' p a d e f := by
  obtain ⟨dx, h1⟩ := h
  exact ⟨dx, s _ _ h1⟩
structure TxYear (K : PySem.W.Frag) (mg : Str → Option Value) (C : Addr) : Prop where
  cl : Cls K C
  nA : NoAttr K C "contracts"
  nD : NoAttr K C "ended"
  nE : NoAttr K C "rate_top"
  nF : NoAttr K C "rate_bottom"
  many : ∃ t, mg "MOST_CONTRACTS" = some (.int 1000000 t)
  part : ∃ t, mg "GREATEST_PART" = some (.int 1000 t)
def yearOk (a d e f : Int) : Prop := (0 ≤ a ∧ a ≤ 1000000) ∧ (0 ≤ d ∧ d ≤ a) ∧ (0 ≤ e ∧ e ≤ 1000) ∧ (1 ≤ f ∧ f ≤ 1000)
section
variable {P : Program} {w : World} {K : PySem.W.Frag} {mg : Str → Option Value} {base : Heap}
/-! ### difference -/
def spDiff (K : PySem.W.Frag) (R CR : Addr) : Sp := fun vs H Q E => ∃ (a b : Int) (x y : Nat), vs = [.int a, .int (x : Nat), .int b, .int (y : Nat)] ∧ 0 < x ∧ 0 < y ∧ Sm 5490 a ∧ Sm 5490 b ∧ Sm 5490 ((x : Nat) : Int) ∧ Sm 5490 ((y : Nat) : Int) ∧ Gives K R CR H Q E (some (Sd49.fr (a * y - b * x) (x * y)))
abbrev psF : List Str := ["first_top", "first_bottom", "second_top", "second_bottom"]
theorem scDiff : FnScope ["first_top", "first_bottom", "second_top", "second_bottom", "shared", "first_part", "second_part"] psF (defScope sDiff) := ⟨rfl, rfl, rfl, by decide +kernel, rfl, by decide +kernel, by decide +kernel⟩
theorem ok_diff {f R CR : Addr} {fd : FuncData} (F : Fun K "difference" "difference" sDiff f fd) (GG : GF P w K mg base CX0 "common_divisor" 1 ["first", "second"] spGcd) (GR : GC P w K mg base CX0 "Ratio" CR 2 psR (spRatio CR)) : FnOk P w K mg base CX0 4 f fd psF (spDiff K R CR) := by
  refine F.ok scDiff (fun vs H Q E h => ?_) (fun cdv A outer s H vs Q E hr h => ?_)
  · obtain ⟨a, b, x, y, rfl, _⟩ := h
    rfl
  · obtain ⟨a, b, x, y, rfl, hx, hy, sa, sb, sx, sy, g⟩ := h
    refine ⟨_, pss_cons (ps_set (i := 4) scDiff.nd rfl (Or.inl rfl) (pe_gf GG hr pass0 (pa_cons (pv 1) (pa_cons (pv 3) pa_nil))))
      (pss_cons (ps_set (i := 5) scDiff.nd rfl (Or.inl rfl) (pe_op op_fdivF (pv 1) (pv 4)))
      (pss_cons (ps_set (i := 6) scDiff.nd rfl (Or.inl rfl) (pe_op op_fdivF (pv 3) (pv 4)))
      (pss_one (ps_ret (pe_gc GR hr pass0 (pa_cons (pe_op op_sub (pe_op op_mulF (pv 0) (pv 6)) (pe_op op_mulF (pv 2) (pv 5))) (pa_cons (pe_op op_mulF (pv 5) (pv 3)) pa_nil))))))), ?_⟩
    have hg : 0 < Nat.gcd x y := Nat.gcd_pos_of_pos_left _ hx
    refine ⟨_, rfl, _, rfl, x, y, rfl, ?_⟩
    refine ⟨_, rfl, _, rfl, _, _, rfl, rfl, ⟨by show (0 : Int) < _; omega, sx.fits⟩, ?_⟩
    refine ⟨_, rfl, _, rfl, _, _, rfl, rfl, ⟨by show (0 : Int) < _; omega, sy.fits⟩, ?_⟩
    try dsimp only
    rw [← Int.natCast_ediv, ← Int.natCast_ediv]
    have su : Sm 5490 ((x / Nat.gcd x y : Nat) : Int) := sx.le (Nat.div_le_self _ _)
    have sv : Sm 5490 ((y / Nat.gcd x y : Nat) : Int) := sy.le (Nat.div_le_self _ _)
    refine ⟨_, rfl, _, rfl, _, _, rfl, rfl, ⟨sa.fits, sv.fits⟩, _, rfl, _, rfl, _, _, rfl, rfl, ⟨sb.fits, su.fits⟩, _, _, rfl, rfl, _, rfl, _, rfl, _, _, rfl, rfl, ⟨su.fits, sy.fits⟩, ?_⟩
    try dsimp only
    rw [← Int.natCast_mul]
    have pu : 0 < x / Nat.gcd x y := Nat.div_pos (Nat.le_of_dvd hx (Nat.gcd_dvd_left _ _)) hg
    refine ratio_read (k := 10981) g rfl ⟨Nat.mul_pos pu hy, (fr_less hx hy).symm⟩ ((sa.mul sv).sub (sb.mul su)) ?_ (by decide) (fun _ _ e => e)
    rw [Int.natCast_mul]
    exact (su.mul sy).mono (by decide)
/-! ### Year -/
def spYearInit (K : PySem.W.Frag) (R C : Addr) : Sp := fun vs H Q E => ∃ (H0 : Hp) (p dx : Addr) (a d e f : Int), vs = [.ref p, .int a, .int d, .int e, .int f] ∧ H p = some (.ins C dx []) ∧ H0 p = none ∧ Same H0 H ∧
  (¬ yearOk a d e f → RefE K R H0 (-2) E) ∧ (yearOk a d e f → ∀ H' : Hp, Same H0 H' → YearAt C H' p a.toNat d.toNat e.toNat f.toNat → Q .non H')
abbrev psY : List Str := ["self", "contracts", "ended", "rate_top", "rate_bottom"]
theorem scYearInit : FnScope psY psY (defScope sYearInit) := ⟨rfl, rfl, rfl, by decide +kernel, rfl, by decide +kernel, by decide +kernel⟩
theorem ok_yearInit {f R C : Addr} {fd : FuncData} (F : Fun K "__init__" "Year.__init__" sYearInit f fd) (T : TxYear K mg C) (GD : GF P w K mg base (CXR P w) "demand_within" 4 psD (spDemand K R)) : FnOk P w K mg base (CXR P w) 5 f fd psY (spYearInit K R C) := by
  refine F.okX scYearInit (fun vs H Q E h => ?_) (fun cdv A outer s H vs Q E hr h => ?_)
  · obtain ⟨H0, p, dx, a, d, e, f, rfl, _⟩ := h
    rfl
  · obtain ⟨H0, p, dx, a, d, e, f, rfl, hp, n0, s0, kE0, kQ⟩ := h
    have kE := fun e => (kE0 e).mono s0
    refine ⟨_, pss_cons (ps_expr (pe_gf GD hr pass_cx (pa_cons (pv 1) (pa_cons pe_int (pa_cons (pe_cst rfl T.many) pa_nil)))))
      (pss_cons (ps_expr (pe_gf GD hr pass_cx (pa_cons (pv 2) (pa_cons pe_int (pa_cons (pv 1) pa_nil)))))
      (pss_cons (ps_expr (pe_gf GD hr pass_cx (pa_cons (pv 3) (pa_cons pe_int (pa_cons (pe_cst rfl T.part) pa_nil)))))
      (pss_cons (ps_expr (pe_gf GD hr pass_cx (pa_cons (pv 4) (pa_cons pe_int (pa_cons (pe_cst rfl T.part) pa_nil)))))
      (pss_cons (ps_fld (pv 0) (pv 1) rfl) (pss_cons (ps_fld (pv 0) (pv 2) rfl) (pss_cons (ps_fld (pv 0) (pv 3) rfl) (pss_one (ps_fld (pv 0) (pv 4) rfl)))))))), ?_⟩
    refine ⟨_, rfl, a, 0, 1000000, rfl, fun c1 => ?_, fun c1 => kE fun z => c1 z.1⟩
    refine ⟨_, rfl, _, rfl, d, 0, a, rfl, fun c2 => ?_, fun c2 => kE fun z => c2 z.2.1⟩
    refine ⟨_, rfl, e, 0, 1000, rfl, fun c3 => ?_, fun c3 => kE fun z => c3 z.2.2.1⟩
    refine ⟨_, rfl, f, 1, 1000, rfl, fun c4 => ?_, fun c4 => kE fun z => c4 z.2.2.2⟩
    refine ⟨_, rfl, _, rfl, p, C, dx, _, rfl, hp, T.cl, T.nA, (by show 0 < 1000; decide), ?_⟩
    refine ⟨_, rfl, _, rfl, p, C, dx, _, rfl, upd_same, T.cl, T.nD, (by show 1 < 1000; decide), ?_⟩
    refine ⟨_, rfl, _, rfl, p, C, dx, _, rfl, upd_same, T.cl, T.nE, (by show 2 < 1000; decide), ?_⟩
    refine ⟨_, rfl, _, rfl, p, C, dx, _, rfl, upd_same, T.cl, T.nF, (by show 3 < 1000; decide), ?_⟩
    refine kQ ⟨c1, c2, c3, c4⟩ _ ((((s0.put n0).put n0).put n0).put n0) ⟨dx, ?_⟩
    have e1 : ((a.toNat : Nat) : Int) = a := by omega
    have e2 : ((d.toNat : Nat) : Int) = d := by omega
    have e3 : ((e.toNat : Nat) : Int) = e := by omega
    have e4 : ((f.toNat : Nat) : Int) = f := by omega
    rw [e1, e2, e3, e4]
    exact upd_same
/-! ### premium -/
def spPrem (K : PySem.W.Frag) (R : Addr) (z : CC) : Sp := fun vs H Q E => ∃ (a : Addr) (T : Sd49.Table) (c : Sd49.Contract) (L : Nat), vs = [.ref a] ∧ ConAt z H a T c L ∧ WfK T c L ∧ Gives K R z.r H Q E (some (Sd49.premium T c))
theorem scPrem : FnScope ["contract"] ["contract"] (defScope sPrem) := ⟨rfl, rfl, rfl, by decide +kernel, rfl, by decide +kernel, by decide +kernel⟩
theorem ok_prem {f R : Addr} {z : CC} {fd : FuncData} (F : Fun K "premium" "premium" sPrem f fd) (T : TxCon K mg z.c) (GR : GC P w K mg base CX0 "Ratio" z.r 2 psR (spRatio z.r)) : FnOk P w K mg base CX0 4 f fd ["contract"] (spPrem K R z) := by
  refine F.ok scPrem (fun vs H Q E h => ?_) (fun cdv A outer s H vs Q E hr h => ?_)
  · obtain ⟨a, T, c, L, rfl, _⟩ := h
    rfl
  · obtain ⟨a, Tb, c, L, rfl, ⟨dx, s, p, pp, tp, tg, ha, hS, hP, hPP, hQ, hG⟩, W, g⟩ := h
    refine ⟨_, pss_one (ps_ret (pe_gc GR hr pass0 (pa_cons (pe_fld (pv 0) rfl) (pa_cons (pe_fld (pv 0) rfl) pa_nil)))), ?_⟩
    refine ⟨_, rfl, a, z.c, dx, _, _, rfl, ha, T.cl, T.nA, cf_firstPay _ _ _ _ _ _ _, _, rfl, a, z.c, dx, _, _, rfl, ha, T.cl, T.nB, cf_firstGet _ _ _ _ _ _ _, ?_⟩
    exact ratio_read (k := 2721) g rfl (is_premium W.tab W.there W.pay.1 W.u1 W.u2) (W.pay_sm 0) (W.get_sm 0) (by decide) (fun _ _ e => e)
/-! ### reserve -/
theorem yearOf_some {T : Sd49.Table} {s : Sd49.Status} {n : Int} {t : Nat} (h : Sd49.yearOf T s n = some t) : n = (t : Int) ∧ t ≤ 240 ∧ 0 < Sd49.alive T s t := by
  rw [yearOf_eq] at h
  split at h
  · rename_i c
    split at h
    · rename_i c2
      cases h
      exact ⟨by omega, by omega, c2⟩
    · cases h
  · cases h
def spReserve (K : PySem.W.Frag) (R : Addr) (z : CC) : Sp := fun vs H Q E => ∃ (a : Addr) (T : Sd49.Table) (c : Sd49.Contract) (L : Nat) (n : Int), vs = [.ref a, .int n] ∧ ConAt z H a T c L ∧ WfK T c L ∧ Gives K R z.r H Q E ((Sd49.yearOf T c.status n).map (Sd49.reserve T c))
theorem scReserve : FnScope ["contract", "when"] ["contract", "when"] (defScope sReserve) := ⟨rfl, rfl, rfl, by decide +kernel, rfl, by decide +kernel, by decide +kernel⟩
theorem ok_reserve {f R : Addr} {z : CC} {fd : FuncData} (F : Fun K "reserve" "reserve" sReserve f fd) (T : TxCon K mg z.c) (TS : TxSt K mg z.s) (GT : GM P w K mg base (CXR P w) z.s "demand_there" 5 psW (spThere K R z.toCS)) (GRP : GM P w K mg base CX0 z.c "reserve_parts" 5 psW (spCon z rParts))
    (GRW : GM P w K mg base CX0 z.c "reserve_whole" 5 psW (spCon z fun T c L t => ((rWhole T c L t : Nat) : Int))) (GR : GC P w K mg base CX0 "Ratio" z.r 2 psR (spRatio z.r)) : FnOk P w K mg base (CXR P w) 6 f fd ["contract", "when"] (spReserve K R z) := by
  refine F.okX scReserve (fun vs H Q E h => ?_) (fun cdv A outer s H vs Q E hr h => ?_)
  · obtain ⟨a, T, c, L, n, rfl, _⟩ := h
    rfl
  · obtain ⟨a, Tb, c, L, n, rfl, hC, W, g⟩ := h
    obtain ⟨dx, s, p, pp, tp, tg, ha, hS, hP, hPP, hQ, hG⟩ := id hC
    obtain ⟨ds, tb, y, hs, hy, hT⟩ := id hS
    refine ⟨_, pss_cons (ps_expr (pe_gm (pe_fld (pv 0) rfl) TS.cl GT hr pass_cx (pa_cons (pv 1) pa_nil)))
      (pss_one (ps_ret (pe_gc GR hr pass0 (pa_cons (pe_gm (pv 0) T.cl GRP hr pass0 (pa_cons (pv 1) pa_nil)) (pa_cons (pe_gm (pv 0) T.cl GRW hr pass0 (pa_cons (pv 1) pa_nil)) pa_nil))))), ?_⟩
    refine ⟨_, rfl, a, z.c, dx, _, _, rfl, ha, T.cl, T.nS, cf_status _ _ _ _ _ _ _, s, ds, _, rfl, hs, sf_no _ _ _ _ (by decide +kernel) (by decide +kernel) (by decide +kernel) (by decide +kernel), _, rfl, s, Tb, c.status, n, rfl, hS, W.st, fun e => g.1 (by rw [e]; rfl), fun ⟨t, et⟩ => ?_⟩
    obtain ⟨rfl, ht, hA⟩ := yearOf_some et
    refine ⟨_, rfl, a, dx, _, rfl, ha, cf_no _ _ _ _ _ _ _ (by decide +kernel), _, rfl, a, Tb, c, L, t, rfl, hC, W, by omega, fun H2 S2 => ⟨_, rfl, a, dx, _, rfl, S2 _ _ ha, cf_no _ _ _ _ _ _ _ (by decide +kernel), _, rfl, a, Tb, c, L, t, rfl, hC.same S2, W, by omega, fun H3 S3 => ?_⟩⟩
    exact ratio_read (k := 5443) g (by rw [et]; rfl) (is_reserve W.tab W.there hA W.pay.1 W.u1 W.u2) (W.rp_sm t) ((W.rw_sm t).mono (by decide)) (by decide) (S2.trans S3)
/-! ### paid -/
def spPaid (K : PySem.W.Frag) (R : Addr) (z : CC) : Sp := fun vs H Q E => ∃ (a : Addr) (T : Sd49.Table) (c : Sd49.Contract) (L : Nat) (n : Int), vs = [.ref a, .int n] ∧ ConAt z H a T c L ∧ WfK T c L ∧
  Gives K R z.r H Q E ((Sd49.yearOf T c.status n).bind fun t => if Sd49.worth T c.status t (Sd49.left t (Sd49.benefits c)) = Sd49.zero then none else some (Sd49.paidUp T c t))
theorem scPaid : FnScope ["contract", "when", "to_pay"] ["contract", "when"] (defScope sPaid) := ⟨rfl, rfl, rfl, by decide +kernel, rfl, by decide +kernel, by decide +kernel⟩
theorem ok_paid {f R C fO : Addr} {z : CC} {fd fdO : FuncData} (F : Fun K "paid" "paid" sPaid f fd) (T : TxCon K mg z.c) (TS : TxSt K mg z.s) (TQ : TxProC K z.q) (GT : GM P w K mg base (CXR P w) z.s "demand_there" 5 psW (spThere K R z.toCS)) (GRP : GM P w K mg base CX0 z.c "reserve_parts" 5 psW (spCon z rParts))
    (GP : GM P w K mg base CX0 z.q "parts" 4 psW (spParts z.toCS z.q)) (GR : GC P w K mg base CX0 "Ratio" z.r 2 psR (spRatio z.r)) (O : RC K mg R C fO "OutOfRange") (GO : FnOk P w K mg base CX0 2 fO fdO ["self"] (spSub (K := K) arOut)) (bO : Binds K fdO ["self"] []) :
    FnOk P w K mg base (CXR P w) 6 f fd ["contract", "when"] (spPaid K R z) := by
  refine F.okX scPaid (fun vs H Q E h => ?_) (fun cdv A outer s H vs Q E hr h => ?_)
  · obtain ⟨a, T, c, L, n, rfl, _⟩ := h
    rfl
  · obtain ⟨a, Tb, c, L, n, rfl, hC, W, g⟩ := h
    obtain ⟨dx, s, p, pp, tp, tg, ha, hS, hP, hPP, hQ, hG⟩ := id hC
    obtain ⟨ds, tb, y, hs, hy, hT⟩ := id hS
    obtain ⟨dq, _, _, _, _, hq, _⟩ := id hQ
    have hr3 : Room 3 _ := hr.mono (by decide)
    refine ⟨_, pss_cons (ps_expr (pe_gm (pe_fld (pv 0) rfl) TS.cl GT hr pass_cx (pa_cons (pv 1) pa_nil)))
      (pss_cons (ps_set (i := 2) scPaid.nd rfl (Or.inl rfl) (pe_gm (pe_fld (pv 0) rfl) TQ.cl GP hr pass0 (pa_cons (pv 1) pa_nil)))
      (pss_cons (ps_if (pt_cmpR op_eq (pv 2) pe_int (nomark _)) (pss_one (ps_raise (pe_xmake0 O.xc GO hr3 rfl O.nm bO pass0))) pss_nil)
      (pss_one (ps_ret (pe_gc GR hr pass0 (pa_cons (pe_gm (pv 0) T.cl GRP hr pass0 (pa_cons (pv 1) pa_nil)) (pa_cons (pe_op op_mulF (pv 2) (pe_fld (pv 0) rfl)) pa_nil))))))), ?_⟩
    refine ⟨_, rfl, a, z.c, dx, _, _, rfl, ha, T.cl, T.nS, cf_status _ _ _ _ _ _ _, s, ds, _, rfl, hs, sf_no _ _ _ _ (by decide +kernel) (by decide +kernel) (by decide +kernel) (by decide +kernel), _, rfl, s, Tb, c.status, n, rfl, hS, W.st, fun e => g.1 (by rw [e]; rfl), fun ⟨t, et⟩ => ?_⟩
    obtain ⟨rfl, ht, hA⟩ := yearOf_some et
    rw [et, Option.bind_some] at g
    refine ⟨_, rfl, a, z.c, dx, _, _, rfl, ha, T.cl, T.nT, cf_toPay _ _ _ _ _ _ _, tp, dq, _, rfl, hq, qf_not _ _ _ _ (by decide +kernel), _, rfl, tp, Tb, c.status, L, c.kind, c.wait, c.term, t, rfl, hQ, W.st, W.kind, W.term, W.last, by omega, ?_⟩
    refine ⟨_, rfl, rfl, _, rfl, ?_⟩
    have wz := worth_zero W.tab hA W.u1
    by_cases h0 : toPay Tb c L t = 0
    · rw [if_pos (wz.mpr h0)] at g
      rw [decide_eq_true (by show V.int ((toPay Tb c L t : Nat) : Int) = _; rw [h0]; rfl)]
      exact iteT (raise_read (E' := E0) O (ar := arOut) (vs := []) (n := -2) rfl (by decide) (fun _ _ e => e) (g.1 rfl))
    · rw [if_neg (fun e => h0 (wz.mp e))] at g
      rw [decide_eq_false (fun q => h0 (by have q : V.int ((toPay Tb c L t : Nat) : Int) = V.int 0 := q; injection q with q; omega))]
      refine iteF ⟨_, rfl, a, dx, _, rfl, ha, cf_no _ _ _ _ _ _ _ (by decide +kernel), _, rfl, a, Tb, c, L, t, rfl, hC, W, by omega, fun H2 S2 => ⟨_, rfl, _, rfl, a, z.c, dx, _, _, rfl, S2 _ _ ha, T.cl, T.nB, cf_firstGet _ _ _ _ _ _ _, _, _, rfl, rfl, ⟨(W.pay_sm t).fits, (W.get_sm 0).fits⟩, ?_⟩⟩
      have i := is_paid W.tab W.there hA W.pay.1 W.u1 W.u2 h0
      have sd : Sm 5443 ((toPay Tb c L t * toGet Tb c L 0 : Nat) : Int) := by
        rw [Int.natCast_mul]
        exact ((W.pay_sm t).mul (W.get_sm 0)).mono (by decide)
      have := ratio_read (EE := E0) (k := 5443) g rfl i (W.rp_sm t) sd (by decide) S2
      rw [Int.natCast_mul] at this
      exact this
/-! ### gain -/
def spGain (K : PySem.W.Frag) (R : Addr) (z : CC) (CY : Addr) : Sp := fun vs H Q E => ∃ (a yr : Addr) (T : Sd49.Table) (c : Sd49.Contract) (L : Nat) (n : Int) (N D e f : Nat), vs = [.ref a, .int n, .ref yr] ∧ ConAt z H a T c L ∧ WfK T c L ∧ YearAt CY H yr N D e f ∧ N ≤ 1000000 ∧ D ≤ N ∧ e ≤ 1000 ∧ 1 ≤ f ∧ f ≤ 1000 ∧
  Gives K R z.r H Q E ((Sd49.yearOf T c.status n).bind fun t => (Sd49.yearOf T c.status ((t : Int) + 1)).map fun _ => Sd49.gain T c t N D e f)
abbrev psG : List Str := ["contract", "when", "year"]
theorem scGain : FnScope ["contract", "when", "year", "later", "kept", "grown", "ended", "others", "grown_whole"] psG (defScope sGain) := ⟨rfl, rfl, rfl, by decide +kernel, rfl, by decide +kernel, by decide +kernel⟩
theorem ok_gain {f R CY : Addr} {z : CC} {fd : FuncData} (F : Fun K "gain" "gain" sGain f fd) (T : TxCon K mg z.c) (TS : TxSt K mg z.s) (TY : TxYear K mg CY) (GT : GM P w K mg base (CXR P w) z.s "demand_there" 5 psW (spThere K R z.toCS)) (GRP : GM P w K mg base CX0 z.c "reserve_parts" 5 psW (spCon z rParts))
    (GRW : GM P w K mg base CX0 z.c "reserve_whole" 5 psW (spCon z fun T c L t => ((rWhole T c L t : Nat) : Int))) (GDP : GM P w K mg base CX0 z.c "due_parts" 6 psW (spCon z fun T c L t => ((amt .living (Sd49.benefits c) t + amt .sure (Sd49.benefits c) t : Nat) : Int) * ((rWhole T c L t : Nat) : Int)))
    (GPP : GM P w K mg base CX0 z.c "premium_parts" 5 psW (spCon z fun T c L t => ((ifT 0 0 c.paying t * toPay T c L 0 * wholeOf T c.status L t : Nat) : Int))) (GEP : GM P w K mg base CX0 z.c "ended_parts" 6 psW (spCon z fun T c L t => ((endParts T c L t : Nat) : Int)))
    (GDi : GF P w K mg base CX0 "difference" 4 psF (spDiff K R z.r)) : FnOk P w K mg base (CXR P w) 7 f fd psG (spGain K R z CY) := by
  refine F.okX scGain (fun vs H Q E h => ?_) (fun cdv A outer s H vs Q E hr h => ?_)
  · obtain ⟨a, yr, T, c, L, n, N, D, e, f, rfl, _⟩ := h
    rfl
  · obtain ⟨a, yr, Tb, c, L, n, N, D, e, f, rfl, hC, W, hY, hN, hD, he, hf1, hf2, g⟩ := h
    obtain ⟨dx, s, p, pp, tp, tg, ha, hS, hP, hPP, hQ, hG⟩ := id hC
    obtain ⟨ds, tb, y, hs, hy, hT⟩ := id hS
    obtain ⟨dy, hy0⟩ := id hY
    have nt : (sf tb (c.status.kind : Nat) (c.status.x : Nat) y).lookup ("demand_there" : Str) = none := sf_no _ _ _ _ (by decide +kernel) (by decide +kernel) (by decide +kernel) (by decide +kernel)
    refine ⟨_, pss_cons (ps_set (i := 3) scGain.nd rfl (Or.inl rfl) (pe_op op_add (pv 1) pe_int))
      (pss_cons (ps_expr (pe_gm (pe_fld (pv 0) rfl) TS.cl GT hr pass_cx (pa_cons (pv 1) pa_nil)))
      (pss_cons (ps_expr (pe_gm (pe_fld (pv 0) rfl) TS.cl GT hr pass_cx (pa_cons (pv 3) pa_nil)))
      (pss_cons (ps_set (i := 4) scGain.nd rfl (Or.inl rfl) (pe_op op_add (pe_op op_sub (pe_gm (pv 0) T.cl GRP hr pass0 (pa_cons (pv 1) pa_nil)) (pe_gm (pv 0) T.cl GDP hr pass0 (pa_cons (pv 1) pa_nil))) (pe_gm (pv 0) T.cl GPP hr pass0 (pa_cons (pv 1) pa_nil))))
      (pss_cons (ps_set (i := 5) scGain.nd rfl (Or.inl rfl) (pe_op op_mulF (pe_op op_mulF (pe_fld (pv 2) rfl) (pv 4)) (pe_op op_add (pe_fld (pv 2) rfl) (pe_fld (pv 2) rfl))))
      (pss_cons (ps_set (i := 6) scGain.nd rfl (Or.inl rfl) (pe_op op_mulF (pe_fld (pv 2) rfl) (pe_gm (pv 0) T.cl GEP hr pass0 (pa_cons (pv 3) pa_nil))))
      (pss_cons (ps_set (i := 7) scGain.nd rfl (Or.inl rfl) (pe_op op_mulF (pe_op op_sub (pe_fld (pv 2) rfl) (pe_fld (pv 2) rfl)) (pe_gm (pv 0) T.cl GRP hr pass0 (pa_cons (pv 3) pa_nil))))
      (pss_cons (ps_set (i := 8) scGain.nd rfl (Or.inl rfl) (pe_op op_mulF (pe_gm (pv 0) T.cl GRW hr pass0 (pa_cons (pv 1) pa_nil)) (pe_fld (pv 2) rfl)))
      (pss_one (ps_ret (pe_gf GDi hr pass0 (pa_cons (pv 5) (pa_cons (pv 8) (pa_cons (pe_op op_add (pv 6) (pv 7)) (pa_cons (pe_gm (pv 0) T.cl GRW hr pass0 (pa_cons (pv 3) pa_nil)) pa_nil)))))))))))))), ?_⟩
    refine ⟨_, rfl, _, _, rfl, rfl, ?_⟩
    refine ⟨_, rfl, a, z.c, dx, _, _, rfl, ha, T.cl, T.nS, cf_status _ _ _ _ _ _ _, s, ds, _, rfl, hs, nt, _, rfl, s, Tb, c.status, n, rfl, hS, W.st, fun e => g.1 (by rw [e]; rfl), fun ⟨t, et⟩ => ?_⟩
    obtain ⟨rfl, ht, hA⟩ := yearOf_some et
    rw [et, Option.bind_some] at g
    refine ⟨_, rfl, a, z.c, dx, _, _, rfl, ha, T.cl, T.nS, cf_status _ _ _ _ _ _ _, s, ds, _, rfl, hs, nt, _, rfl, s, Tb, c.status, (t : Int) + 1, rfl, hS, W.st, fun e => g.1 (by rw [e]; rfl), fun ⟨t1, et1⟩ => ?_⟩
    obtain ⟨e1, ht1, hA1⟩ := yearOf_some et1
    have e1' : t1 = t + 1 := by omega
    subst e1'
    rw [et1] at g
    have g2 : Gives K R z.r H Q E (some (Sd49.gain Tb c t N D e f)) := g
    have smN : Sm 20 ((N : Nat) : Int) := sm_nat (by show _ < 1048576; omega)
    have smD : Sm 20 ((D : Nat) : Int) := sm_nat (by show _ < 1048576; omega)
    have smND : Sm 20 (((N : Nat) : Int) - ((D : Nat) : Int)) := by
      rw [show ((N : Nat) : Int) - ((D : Nat) : Int) = ((N - D : Nat) : Int) by omega]
      exact sm_nat (by show _ < 1048576; omega)
    have smF : Sm 10 ((f : Nat) : Int) := sm_nat (by show _ < 1024; omega)
    have smFE : Sm 11 (((f : Nat) : Int) + ((e : Nat) : Int)) := by
      rw [← Int.natCast_add]
      exact sm_nat (by show _ < 2048; omega)
    have cn : ∀ {x : Str}, x ∉ (["status", "payment", "premium_payment", "to_pay", "to_get", "first_to_pay", "first_to_get"] : List Str) → (cf s p pp tp tg ((toPay Tb c L 0 : Nat) : Int) ((toGet Tb c L 0 : Nat) : Int)).lookup x = none := fun h => cf_no _ _ _ _ _ _ _ h
    -- kept
    refine ⟨_, rfl, a, dx, _, rfl, ha, cn (by decide +kernel), _, rfl, a, Tb, c, L, t, rfl, hC, W, by omega, fun H2 S2 => ⟨_, rfl, a, dx, _, rfl, S2 _ _ ha, cn (by decide +kernel), _, rfl, a, Tb, c, L, t, rfl, hC.same S2, W, by omega, fun H3 S3 => ⟨_, _, rfl, rfl, _, rfl, a, dx, _, rfl, (S2.trans S3) _ _ ha, cn (by decide +kernel), _, rfl, a, Tb, c, L, t, rfl, hC.same (S2.trans S3), W, by omega, fun H4 S4 => ⟨_, _, rfl, rfl, ?_⟩⟩⟩⟩
    have T4 := (S2.trans S3).trans S4
    have ek : rParts Tb c L t - ((amt .living (Sd49.benefits c) t + amt .sure (Sd49.benefits c) t : Nat) : Int) * ((rWhole Tb c L t : Nat) : Int) + ((ifT 0 0 c.paying t * toPay Tb c L 0 * wholeOf Tb c.status L t : Nat) : Int) = keptParts Tb c L t := rfl
    try dsimp only
    rw [ek]
    have smK := W.kept_sm t
    -- grown
    refine ⟨_, rfl, yr, CY, dy, _, _, rfl, T4 _ _ hy0, TY.cl, TY.nA, yf_contracts _ _ _ _, _, rfl, _, _, rfl, rfl, ⟨smN.fits, smK.fits⟩, _, rfl, yr, CY, dy, _, _, rfl, T4 _ _ hy0, TY.cl, TY.nF, yf_bottom _ _ _ _, _, rfl, yr, CY, dy, _, _, rfl, T4 _ _ hy0, TY.cl, TY.nE, yf_top _ _ _ _, _, _, rfl, rfl, _, _, rfl, rfl, ⟨(smN.mul smK).fits, smFE.fits⟩, ?_⟩
    -- ended
    refine ⟨_, rfl, yr, CY, dy, _, _, rfl, T4 _ _ hy0, TY.cl, TY.nD, yf_ended _ _ _ _, _, rfl, a, dx, _, rfl, T4 _ _ ha, cn (by decide +kernel), _, rfl, a, Tb, c, L, t + 1, rfl, hC.same T4, W, by omega, fun H5 S5 => ⟨_, _, rfl, rfl, ⟨smD.fits, (W.endp_sm (t + 1)).fits⟩, ?_⟩⟩
    have T5 := T4.trans S5
    -- others
    refine ⟨_, rfl, yr, CY, dy, _, _, rfl, T5 _ _ hy0, TY.cl, TY.nA, yf_contracts _ _ _ _, _, rfl, yr, CY, dy, _, _, rfl, T5 _ _ hy0, TY.cl, TY.nD, yf_ended _ _ _ _, _, _, rfl, rfl, _, rfl, a, dx, _, rfl, T5 _ _ ha, cn (by decide +kernel), _, rfl, a, Tb, c, L, t + 1, rfl, hC.same T5, W, by omega, fun H6 S6 => ⟨_, _, rfl, rfl, ⟨smND.fits, (W.rp_sm (t + 1)).fits⟩, ?_⟩⟩
    have T6 := T5.trans S6
    -- the bottom
    refine ⟨_, rfl, a, dx, _, rfl, T6 _ _ ha, cn (by decide +kernel), _, rfl, a, Tb, c, L, t, rfl, hC.same T6, W, by omega, fun H7 S7 => ⟨_, rfl, yr, CY, dy, _, _, rfl, (T6.trans S7) _ _ hy0, TY.cl, TY.nF, yf_bottom _ _ _ _, _, _, rfl, rfl, ⟨(W.rw_sm t).fits, smF.fits⟩, ?_⟩⟩
    have T7 := T6.trans S7
    -- the difference
    have gp := get_pos (L := L) W.tab W.there W.pay.1
    have p1 : 0 < rWhole Tb c L t := Nat.mul_pos (whole_pos W.tab hA) gp
    have p2 : 0 < rWhole Tb c L (t + 1) := Nat.mul_pos (whole_pos W.tab hA1) gp
    refine ⟨_, rfl, _, rfl, _, rfl, _, rfl, _, _, rfl, rfl, _, rfl, a, dx, _, rfl, T7 _ _ ha, cn (by decide +kernel), _, rfl, a, Tb, c, L, t + 1, rfl, hC.same T7, W, by omega, fun H8 S8 => ?_⟩
    have T8 := T7.trans S8
    have sB : Sm 5451 ((rWhole Tb c L t * f : Nat) : Int) := by
      rw [Int.natCast_mul]
      exact (W.rw_sm t).mul smF
    refine ⟨_, _, rWhole Tb c L t * f, rWhole Tb c L (t + 1), ?_, Nat.mul_pos p1 hf1, p2, ((smN.mul smK).mul smFE).mono (by decide), (((smD.mul (W.endp_sm (t + 1))).mono (by decide)).add ((smND.mul (W.rp_sm (t + 1))).mono (by decide : 20 + 5443 ≤ 5469))).mono (by decide), sB.mono (by decide), (W.rw_sm (t + 1)).mono (by decide), ?_⟩
    · rw [Int.natCast_mul]
      rfl
    · have i := is_gain W.tab W.there hA hA1 W.pay.1 W.u1 W.u2 (N := N) (D := D) (e := e) (f := f) hD hf1
      have e2 := i.eq
      refine ⟨fun z => (by cases z), fun fr hfr hTl H' q S' hR => ?_⟩
      cases hfr
      rw [← e2] at hTl hR
      exact g2.2 _ rfl hTl H' q (T8.trans S') hR
end
end LT
end
section
set_option linter.all false
set_option Elab.async false
set_option maxRecDepth 100000
set_option maxHeartbeats 2000000
namespace LT
open PySem PySem.Spec PyProof.Rows L2 LX
/-! ### a dict of ints that the top has written -/
structure DK (K : PySem.W.Frag) (P : Program) (w : World) (D : Addr) (kvs : List (Key × V)) : Prop where
  ns : (D == sysModules) = false
  of : ∀ h, K.In h → ∃ vs, KV kvs vs ∧ h.DictOf (mixKind P w) D vs
section
variable {X : Cx} {o i : Expr} {pos : Pos} {ty : TE} {D : Addr} {kvs : List (Key × V)}
theorem pc_notinK (hD : DK X.K X.prog X.w D kvs) (hi : PE X i ty) (ho : PE X o (tC (.ref D))) : PC X .NotIn i o (fun σ H Q => ty σ H fun y H1 => ∃ k, y = kV k ∧ Q (.bl (!(valV kvs k).isSome)) H1) := by
  intro pins s σ H Q I h
  refine thn (hi pins s σ H _ I h) fun iv s1 ⟨y, H1, I1, ry, k, ey, q1⟩ => ?_
  refine thn (ho pins s1 σ H1 (fun x H2 => x = .ref D ∧ Q (.bl (!(valV kvs k).isSome)) H2) I1 ⟨rfl, q1⟩) fun u s2 ⟨x, H2, I2, rx, ex, q2⟩ => ?_
  subst ex ey
  obtain rfl : u = Value.ref D := rx
  obtain ⟨vs, rel, dd⟩ := hD.of _ I2.kIn
  refine wpAny_notIn_of (kV_is ry) hD.ns dd.mapOf ?_
  rw [← (rel.val k).isSome_eq]
  exact ⟨.bl _, H2, I2.tok _, rfl, q2⟩
theorem pe_dgetK (hD : DK X.K X.prog X.w D kvs) (ho : PE X o (tC (.ref D))) (hi : PE X i ty) (hs : NoSl i) : PE X (.Subscript o i pos) (fun σ H Q => ty σ H fun y H1 => ∃ k v, y = kV k ∧ valV kvs k = some v ∧ Q v H1) := by
  intro pins s σ H Q I h
  refine subD_of PySem.F.slot_dict_getitem.lookup hs (thn (ho pins s σ H (fun x H1 => x = .ref D ∧ ty σ H1 fun y H2 => ∃ k v, y = kV k ∧ valV kvs k = some v ∧ Q v H2) I ⟨rfl, h⟩) fun u s1 ⟨x, H1, I1, rx, ex, q1⟩ => thn (hi pins s1 σ H1 _ I1 q1) fun iv s2 ⟨y, H2, I2, ry, k, v, ey, ev, q2⟩ => ?_)
  subst ex ey
  obtain rfl : u = Value.ref D := rx
  obtain ⟨vs, rel, dd⟩ := hD.of _ I2.kIn
  obtain ⟨w', hw, rw'⟩ := RelO.some_of (v := v) (o := valueAt vs k) (by rw [← ev]; exact rel.val k)
  exact ⟨dd.typeIs, wpAny_getItem_of (kV_is ry) dd.mapOf hw ⟨v, H2, I2.tok _, rw', q2⟩⟩
end
def nums : List (Key × V) := [(.inl 1, .int 5), (.inl 2, .int 4), (.inl 3, .int 7), (.inl 4, .int 8), (.inl 5, .int 9), (.inl 6, .int 9), (.inl 7, .int 13)]
theorem valV_nums (p : Int) : valV nums (.inl p) = (numbersOf p).map fun n => V.int ((n : Nat) : Int) := by
  unfold numbersOf
  by_cases h1 : p = 1
  · subst h1; rfl
  by_cases h2 : p = 2
  · subst h2; rfl
  by_cases h3 : p = 3
  · subst h3; rfl
  by_cases h4 : p = 4
  · subst h4; rfl
  by_cases h5 : p = 5
  · subst h5; rfl
  by_cases h6 : p = 6
  · subst h6; rfl
  by_cases h7 : p = 7
  · subst h7; rfl
  rw [if_neg h1, if_neg h2, if_neg h3, if_neg h4, if_neg h5, if_neg h6, if_neg h7]
  unfold valV nums
  have ne : ∀ {a : Int}, ¬ p = a → ¬ ((Sum.inl a : Key) = Sum.inl p) := fun h z => h (Sum.inl.inj z).symm
  simp [Ne.symm h1, Ne.symm h2, Ne.symm h3, Ne.symm h4, Ne.symm h5, Ne.symm h6, Ne.symm h7]
/-- over a text -/
theorem lc_str {x : Str} {g : TG} {tt : TT} {te : TE} {vs : List Nat} {σ : L2.St} {H1 : Hp} {D : Addr} {Qd : Hp → Prop} (Pv : Nat → Hp → Prop) (h0 : Pv 0 (upd H1 D (.lst [])))
    (hs : ∀ i c H, x.cps[i]? = some c → Pv i H → g (.str ⟨#[c]⟩) (wipe σ vs) H fun σ2 H2 => wipe σ2 vs = wipe σ vs ∧ tt σ2 H2 fun b H3 =>
      if b = true then te σ2 H3 fun y H4 => ∃ acc, H4 D = some (.lst acc) ∧ acc.length < sizeLine ∧ Pv (i + 1) (upd H4 D (.lst (acc ++ [y]))) else Pv (i + 1) H3) (hd : ∀ H, Pv x.cps.size H → Qd H) :
    ∃ W : Nat → Nat → Hp → Prop, (∃ m, W 0 m (upd H1 D (.lst []))) ∧ ∀ i m H, W i m H →
      ((Its x).stop i H ∧ Qd H) ∨ ((Its x).go i H ∧ ∃ Nx : Hp → Prop, (∀ H', Nx H' → ∃ m', m' < m ∧ W (i + 1) m' H') ∧ ∀ v H', (Its x).yld i H v H' → g v (wipe σ vs) H' fun σ2 H2 => wipe σ2 vs = wipe σ vs ∧ tt σ2 H2 fun b H3 =>
        if b = true then te σ2 H3 fun y H4 => ∃ acc, H4 D = some (.lst acc) ∧ acc.length < sizeLine ∧ Nx (upd H4 D (.lst (acc ++ [y]))) else Nx H3) := by
  refine ⟨fun i m H => m = x.cps.size - i ∧ i ≤ x.cps.size ∧ Pv i H, ⟨x.cps.size, by simp, Nat.zero_le _, h0⟩, ?_⟩
  rintro i m H ⟨rfl, hi, p⟩
  by_cases hlt : i < x.cps.size
  · refine .inr ⟨hlt, Pv (i + 1), fun H' p' => ⟨x.cps.size - (i + 1), by omega, rfl, hlt, p'⟩, fun v H' y => ?_⟩
    obtain ⟨e, c, hc, ev⟩ := y
    subst e ev
    exact hs i c _ hc p
  · have e : i = x.cps.size := by omega
    subst e
    exact .inl ⟨Nat.le_refl _, hd H p⟩
/-! ### CallReader -/
abbrev sRdInit : Stmt := inClass (top 71) 0
abbrev sAllRead : Stmt := inClass (top 71) 1
abbrev sTake : Stmt := inClass (top 71) 2
abbrev sTakes : Stmt := inClass (top 71) 3
def df (c : Addr) (i : Int) : List (Str × V) := putF "place" (.int i) (putF "calls" (.ref c) [])
theorem df_eq (c : Addr) (i : Int) : df c i = [(("calls" : Str), V.ref c), (("place" : Str), V.int i)] := by
  unfold df
  show (if ("calls" : Str) = "place" then _ else _) = _
  rw [if_neg (by decide)]
  rfl
theorem df_put (c : Addr) (i j : Int) : putF "place" (.int j) (df c i) = df c j := by
  rw [df_eq, df_eq]
  show (if ("calls" : Str) = "place" then _ else (("calls" : Str), V.ref c) :: (if ("place" : Str) = "place" then [(("place" : Str), V.int j)] else _)) = _
  rw [if_neg (by decide), if_pos rfl]
theorem df_calls (c : Addr) (i : Int) : (df c i).lookup ("calls" : Str) = some (.ref c) := by
  unfold df
  rw [lookup_putF, if_neg (by decide), lookup_putF, if_pos rfl]
theorem df_place (c : Addr) (i : Int) : (df c i).lookup ("place" : Str) = some (.int i) := by
  unfold df
  rw [lookup_putF, if_pos rfl]
theorem df_no (c : Addr) (i : Int) {m : Str} (h1 : ¬ m = "calls") (h2 : ¬ m = "place") : (df c i).lookup m = none := by
  unfold df
  rw [lookup_putF, if_neg h2, lookup_putF, if_neg h1]
  rfl
structure TxRd (K : PySem.W.Frag) (mg : Str → Option Value) (C : Addr) : Prop where
  cl : Cls K C
  nC : NoAttr K C "calls"
  nP : NoAttr K C "place"
  len : mg "len" = none
theorem cut_mid {xs : List V} {i k : Nat} (h : i + k ≤ xs.length) : cutV xs (some (i : Int)) (some ((i : Int) + (k : Int))) = (xs.drop i).take k := by
  unfold cutV
  rw [← Int.natCast_add, HT.sIx_nat, HT.sIx_nat, Nat.min_eq_left (by omega), Nat.min_eq_left (by omega)]
  congr 1
  omega
theorem seq_upd {K : PySem.W.Frag} {H : Hp} {a p C dp : Addr} {fs : List (Str × V)} {xs : List V} {o : HO} (hp : H p = some (.ins C dp fs)) (h : SqL K H a xs) : SqL K (upd H p o) a xs := by
  rcases h with (h | ⟨o', h⟩) | h
  · exact .inl (.inl (by rw [upd_ne (ne_of h hp (by intro z; cases z))]; exact h))
  · exact .inl (.inr ⟨o', by rw [upd_ne (ne_of h hp (by intro z; cases z))]; exact h⟩)
  · exact .inr h
section
variable {P : Program} {w : World} {K : PySem.W.Frag} {mg : Str → Option Value} {base : Heap}
def spRdInit (C : Addr) : Sp := fun vs H Q _ => ∃ (p dx a : Addr), vs = [.ref p, .ref a] ∧ H p = some (.ins C dx []) ∧ ∀ H' : Hp, H' p = some (.ins C dx (df a 0)) → (∀ b o, H b = some o → b ≠ p → H' b = some o) → Q .non H'
theorem scRdInit : FnScope ["self", "calls"] ["self", "calls"] (defScope sRdInit) := ⟨rfl, rfl, rfl, by decide +kernel, rfl, by decide +kernel, by decide +kernel⟩
theorem ok_rdInit {f C : Addr} {fd : FuncData} (F : Fun K "__init__" "CallReader.__init__" sRdInit f fd) (T : TxRd K mg C) : FnOk P w K mg base CX0 1 f fd ["self", "calls"] (spRdInit C) := by
  refine F.ok scRdInit (fun vs H Q E h => ?_) (fun cdv A outer s H vs Q E hr h => ?_)
  · obtain ⟨p, dx, a, rfl, _⟩ := h
    rfl
  · obtain ⟨p, dx, a, rfl, hp, k⟩ := h
    refine ⟨_, pss_cons (ps_fld (pv 0) (pv 1) rfl) (pss_one (ps_fld (pv 0) pe_int rfl)), ?_⟩
    refine ⟨_, rfl, _, rfl, p, C, dx, _, rfl, hp, T.cl, T.nC, (by show 0 < 1000; decide), ?_⟩
    refine ⟨_, rfl, p, C, dx, _, rfl, upd_same, T.cl, T.nP, (by show 1 < 1000; decide), ?_⟩
    exact k _ upd_same fun b o e hb => by rw [upd_ne hb, upd_ne hb]; exact e
def spAllRead (K : PySem.W.Frag) (C : Addr) : Sp := fun vs H Q _ => ∃ (p dx a : Addr) (ns : List Int) (i : Nat), vs = [.ref p] ∧ H p = some (.ins C dx (df a (i : Nat))) ∧ SqL K H a (ns.map V.int) ∧ Q (.bl (decide (ns.length ≤ i))) H
theorem scAllRead : FnScope ["self"] ["self"] (defScope sAllRead) := ⟨rfl, rfl, rfl, by decide +kernel, rfl, by decide +kernel, by decide +kernel⟩
theorem ok_allRead {f C : Addr} {fd : FuncData} (F : Fun K "all_read" "CallReader.all_read" sAllRead f fd) (T : TxRd K mg C) : FnOk P w K mg base CX0 1 f fd ["self"] (spAllRead K C) := by
  refine F.ok scAllRead (fun vs H Q E h => ?_) (fun cdv A outer s H vs Q E hr h => ?_)
  · obtain ⟨p, dx, a, ns, i, rfl, _⟩ := h
    rfl
  · obtain ⟨p, dx, a, ns, i, rfl, hp, hS, k⟩ := h
    refine ⟨_, pss_one (ps_ret (pe_cmpR op_ge (pe_fld (pv 0) rfl) (pe_callB call_len_seq rfl T.len PySem.boot_len (pa_cons (pe_fld (pv 0) rfl) pa_nil)) (nomark _))), ?_⟩
    refine ⟨_, rfl, p, C, dx, _, _, rfl, hp, T.cl, T.nP, df_place _ _, _, rfl, p, C, dx, _, _, rfl, hp, T.cl, T.nC, df_calls _ _, a, _, rfl, .inl hS, _, _, rfl, rfl, ?_⟩
    have e : decide (ns.length ≤ i) = decide ((((ns.map V.int).length : Nat) : Int) ≤ ((i : Nat) : Int)) := decide_eq_decide.mpr (by rw [List.length_map]; omega)
    rw [e] at k
    exact k
def spTake (K : PySem.W.Frag) (C : Addr) : Sp := fun vs H Q _ => ∃ (p dx a : Addr) (ns : List Int) (i : Nat) (v : Int), vs = [.ref p] ∧ H p = some (.ins C dx (df a (i : Nat))) ∧ SqL K H a (ns.map V.int) ∧ ns[i]? = some v ∧ Q (.int v) (upd H p (.ins C dx (df a ((i + 1 : Nat) : Int))))
theorem scTake : FnScope ["self", "number"] ["self"] (defScope sTake) := ⟨rfl, rfl, rfl, by decide +kernel, rfl, by decide +kernel, by decide +kernel⟩
theorem ok_take {f C : Addr} {fd : FuncData} (F : Fun K "take_number" "CallReader.take_number" sTake f fd) (T : TxRd K mg C) : FnOk P w K mg base CX0 1 f fd ["self"] (spTake K C) := by
  refine F.ok scTake (fun vs H Q E h => ?_) (fun cdv A outer s H vs Q E hr h => ?_)
  · obtain ⟨p, dx, a, ns, i, v, rfl, _⟩ := h
    rfl
  · obtain ⟨p, dx, a, ns, i, v, rfl, hp, hS, hv, k⟩ := h
    refine ⟨_, pss_cons (ps_set (i := 1) scTake.nd rfl (Or.inl rfl) (pe_ix ix_list (pe_fld (pv 0) rfl) (pe_fld (pv 0) rfl) (fun _ _ => rfl)))
      (pss_cons (ps_fld (pv 0) (pe_op op_add (pe_fld (pv 0) rfl) pe_int) rfl) (pss_one (ps_ret (pv 1)))), ?_⟩
    refine ⟨_, rfl, p, C, dx, _, _, rfl, hp, T.cl, T.nC, df_calls _ _, _, rfl, p, C, dx, _, _, rfl, hp, T.cl, T.nP, df_place _ _, a, _, _, _, rfl, rfl, hS, atI_nat (j := i) (v := .int v) (by rw [List.getElem?_map, hv]; rfl), ?_⟩
    refine ⟨_, rfl, p, C, dx, _, _, rfl, hp, T.cl, T.nP, df_place _ _, _, _, rfl, rfl, _, rfl, p, C, dx, _, rfl, hp, T.cl, T.nP, (by rw [df_eq]; show 2 < 1000; decide), ?_⟩
    rw [df_put]
    exact ⟨_, rfl, k⟩
def spTakes (K : PySem.W.Frag) (C : Addr) : Sp := fun vs H Q _ => ∃ (p dx a : Addr) (ns : List Int) (i k : Nat), vs = [.ref p, .int (k : Nat)] ∧ H p = some (.ins C dx (df a (i : Nat))) ∧ SqL K H a (ns.map V.int) ∧ i + k ≤ ns.length ∧
  ∀ q, upd H p (.ins C dx (df a ((i + k : Nat) : Int))) q = none → Q (.ref q) (upd (upd H p (.ins C dx (df a ((i + k : Nat) : Int)))) q (.lst (((ns.drop i).take k).map V.int)))
theorem scTakes : FnScope ["self", "count", "start"] ["self", "count"] (defScope sTakes) := ⟨rfl, rfl, rfl, by decide +kernel, rfl, by decide +kernel, by decide +kernel⟩
theorem ok_takes {f C : Addr} {fd : FuncData} (F : Fun K "take_numbers" "CallReader.take_numbers" sTakes f fd) (T : TxRd K mg C) : FnOk P w K mg base CX0 1 f fd ["self", "count"] (spTakes K C) := by
  refine F.ok scTakes (fun vs H Q E h => ?_) (fun cdv A outer s H vs Q E hr h => ?_)
  · obtain ⟨p, dx, a, ns, i, k, rfl, _⟩ := h
    rfl
  · obtain ⟨p, dx, a, ns, i, k, rfl, hp, hS, hl, kQ⟩ := h
    refine ⟨_, pss_cons (ps_set (i := 2) scTakes.nd rfl (Or.inl rfl) (pe_fld (pv 0) rfl))
      (pss_cons (ps_fld (pv 0) (pe_op op_add (pv 2) (pv 1)) rfl) (pss_one (ps_ret (pe_slice sl_list (pe_fld (pv 0) rfl) (po_some (pv 2)) (po_some (pe_fld (pv 0) rfl)))))), ?_⟩
    refine ⟨_, rfl, p, C, dx, _, _, rfl, hp, T.cl, T.nP, df_place _ _, ?_⟩
    refine ⟨_, rfl, _, rfl, _, _, rfl, rfl, _, rfl, p, C, dx, _, rfl, hp, T.cl, T.nP, (by rw [df_eq]; show 2 < 1000; decide), ?_⟩
    rw [df_put]
    refine ⟨_, rfl, p, C, dx, _, _, rfl, upd_same, T.cl, T.nC, df_calls _ _, _, rfl, _, rfl, _, rfl, p, C, dx, _, _, rfl, upd_same, T.cl, T.nP, df_place _ _, _, rfl, a, _, rfl, seq_upd hp hS, fun q hq => ?_⟩
    have e : cutV (ns.map V.int) (some ((i : Nat) : Int)) (some (((i : Nat) : Int) + ((k : Nat) : Int))) = ((ns.drop i).take k).map V.int := by
      rw [cut_mid (by rw [List.length_map]; exact hl), List.map_take, List.map_drop]
    rw [e]
    exact kQ q hq
end
end LT
end
section
set_option linter.all false
set_option Elab.async false
set_option maxRecDepth 100000
set_option maxHeartbeats 2000000
namespace LT
open PySem PySem.Spec PyProof.Rows L2 LX
/-! ### what a call asks for -/
def frOf (T : Sd49.Table) : Sd49.Call → Option Sd49.Fr
  | .begin_ _ _ => none
  | .alive q x y t _ => (Sd49.statusOf T q x y).bind fun u => (Sd49.among 0 240 t).map fun t => Sd49.fr (Sd49.alive T u t : Int) (Sd49.alive T u 0)
  | .mean q x y _ => (Sd49.statusOf T q x y).map (Sd49.mean T)
  | .worth q x y k m n _ => (Sd49.statusOf T q x y).bind fun u => (Sd49.among 0 6 k).bind fun k => (Sd49.among 0 120 m).bind fun m => (Sd49.among 0 120 n).map fun n => Sd49.worth T u 0 (Sd49.pays k m n)
  | .premium c _ => (Sd49.contractOf T c).map (Sd49.premium T)
  | .reserve c t _ => (Sd49.contractOf T c).bind fun c => (Sd49.yearOf T c.status t).map (Sd49.reserve T c)
  | .paidUp c t _ => Sd49.paid T c t
  | .gain c t a d e f _ => Sd49.gained T c t a d e f
def roomOf : Sd49.Call → Int
  | .begin_ _ n => n
  | .alive _ _ _ _ r => r
  | .mean _ _ _ r => r
  | .worth _ _ _ _ _ _ r => r
  | .premium _ r => r
  | .reserve _ _ r => r
  | .paidUp _ _ r => r
  | .gain _ _ _ _ _ _ r => r
theorem does_eq (T : Sd49.Table) (c : Sd49.Call) (hc : ∀ t n, c ≠ .begin_ t n) : Sd49.does (some T) c = (some T, Sd49.answer (roomOf c) (frOf T c)) := by
  cases c with
  | begin_ t n => exact absurd rfl (hc t n)
  | _ => rfl
/-- the calls that tell a fraction, by their numbers -/
inductive Asks : Int → List Int → Sd49.Call → Prop
  | alive (s x y t m : Int) : Asks 1 [s, x, y, t, m] (.alive s x y t m)
  | mean (s x y m : Int) : Asks 2 [s, x, y, m] (.mean s x y m)
  | worth (s x y k m n r : Int) : Asks 3 [s, x, y, k, m, n, r] (.worth s x y k m n r)
  | premium (s x y k m n h r : Int) : Asks 4 [s, x, y, k, m, n, h, r] (.premium ⟨s, x, y, k, m, n, h⟩ r)
  | reserve (s x y k m n h t r : Int) : Asks 5 [s, x, y, k, m, n, h, t, r] (.reserve ⟨s, x, y, k, m, n, h⟩ t r)
  | paid (s x y k m n h t r : Int) : Asks 6 [s, x, y, k, m, n, h, t, r] (.paidUp ⟨s, x, y, k, m, n, h⟩ t r)
  | gain (s x y k m n h t a d e f r : Int) : Asks 7 [s, x, y, k, m, n, h, t, a, d, e, f, r] (.gain ⟨s, x, y, k, m, n, h⟩ t a d e f r)
theorem contract_st {T : Sd49.Table} {c : Sd49.Asked} (h : Sd49.statusOf T c.s c.x c.y = none) : Sd49.contractOf T c = none := by
  unfold Sd49.contractOf
  rw [h]
  rfl
theorem among_some {a z : Nat} {v : Int} (h : (a : Int) ≤ v ∧ v ≤ (z : Int)) : Sd49.among a z v = some v.toNat := by rw [among_eq, if_pos h]
theorem among_none {a z : Nat} {v : Int} (h : ¬ ((a : Int) ≤ v ∧ v ≤ (z : Int))) : Sd49.among a z v = none := by rw [among_eq, if_neg h]
theorem contract_pay {T : Sd49.Table} {c : Sd49.Asked} (h : ¬ payOk c.k c.m c.n) : Sd49.contractOf T c = none := by
  unfold Sd49.contractOf
  cases Sd49.statusOf T c.s c.x c.y with
  | none => rfl
  | some s =>
    simp only [Option.bind_eq_bind, Option.bind_some]
    by_cases h1 : 0 ≤ c.k ∧ c.k ≤ 6
    · rw [among_some (by simpa using h1)]
      simp only [Option.bind_some]
      by_cases h2 : 0 ≤ c.m ∧ c.m ≤ 120
      · rw [among_some (by simpa using h2)]
        simp only [Option.bind_some]
        by_cases h3 : 0 ≤ c.n ∧ c.n ≤ 120
        · exact absurd ⟨h1, h2, h3⟩ h
        · rw [among_none (by simpa using h3)]
          rfl
      · rw [among_none (by simpa using h2)]
        rfl
    · rw [among_none (by simpa using h1)]
      rfl
theorem contract_eq {T : Sd49.Table} {c : Sd49.Asked} {s : Sd49.Status} (hs : Sd49.statusOf T c.s c.x c.y = some s) (h : payOk c.k c.m c.n) : Sd49.contractOf T c = (Sd49.among 1 120 c.h).map fun h => ⟨s, c.k.toNat, c.m.toNat, c.n.toNat, h⟩ := by
  unfold Sd49.contractOf
  rw [hs, among_some (by simpa using h.1), among_some (by simpa using h.2.1), among_some (by simpa using h.2.2)]
  simp only [Option.bind_eq_bind, Option.bind_some]
  cases Sd49.among 1 120 c.h <;> rfl
theorem gained_no {T : Sd49.Table} {c : Sd49.Asked} {t a d e f : Int} (h : ¬ yearOk a d e f) : Sd49.gained T c t a d e f = none := by
  unfold Sd49.gained
  cases Sd49.contractOf T c with
  | none => rfl
  | some c' =>
    simp only [Option.bind_eq_bind, Option.bind_some]
    cases Sd49.yearOf T c'.status t with
    | none => rfl
    | some t' =>
      simp only [Option.bind_some]
      cases Sd49.yearOf T c'.status (t' + 1) with
      | none => rfl
      | some t2 =>
        simp only [Option.bind_some]
        by_cases h1 : 0 ≤ a ∧ a ≤ 1000000
        · rw [among_some (show ((0 : Nat) : Int) ≤ a ∧ a ≤ ((Sd49.MANY : Nat) : Int) from h1)]
          simp only [Option.bind_some]
          by_cases h2 : 0 ≤ d ∧ d ≤ a
          · rw [among_some (show ((0 : Nat) : Int) ≤ d ∧ d ≤ ((a.toNat : Nat) : Int) by omega)]
            simp only [Option.bind_some]
            by_cases h3 : 0 ≤ e ∧ e ≤ 1000
            · rw [among_some (show ((0 : Nat) : Int) ≤ e ∧ e ≤ ((Sd49.PARTS : Nat) : Int) from h3)]
              simp only [Option.bind_some]
              by_cases h4 : 1 ≤ f ∧ f ≤ 1000
              · exact absurd ⟨h1, h2, h3, h4⟩ h
              · rw [among_none (show ¬ (((1 : Nat) : Int) ≤ f ∧ f ≤ ((Sd49.PARTS : Nat) : Int)) from h4)]
                rfl
            · rw [among_none (show ¬ (((0 : Nat) : Int) ≤ e ∧ e ≤ ((Sd49.PARTS : Nat) : Int)) from h3)]
              rfl
          · rw [among_none (show ¬ (((0 : Nat) : Int) ≤ d ∧ d ≤ ((a.toNat : Nat) : Int)) by omega)]
            rfl
        · rw [among_none (show ¬ (((0 : Nat) : Int) ≤ a ∧ a ≤ ((Sd49.MANY : Nat) : Int)) from h1)]
          rfl
theorem gained_eq {T : Sd49.Table} {c : Sd49.Asked} {c' : Sd49.Contract} {t a d e f : Int} (hc : Sd49.contractOf T c = some c') (h : yearOk a d e f) :
    Sd49.gained T c t a d e f = (Sd49.yearOf T c'.status t).bind fun t => (Sd49.yearOf T c'.status ((t : Int) + 1)).map fun _ => Sd49.gain T c' t a.toNat d.toNat e.toNat f.toNat := by
  obtain ⟨h1, h2, h3, h4⟩ := h
  unfold Sd49.gained
  rw [hc]
  simp only [Option.bind_eq_bind, Option.bind_some]
  cases Sd49.yearOf T c'.status t with
  | none => rfl
  | some t' =>
    simp only [Option.bind_some]
    cases Sd49.yearOf T c'.status (t' + 1) with
    | none => rfl
    | some t2 =>
      simp only [Option.bind_some, Option.map_some]
      rw [among_some (show ((0 : Nat) : Int) ≤ a ∧ a ≤ ((Sd49.MANY : Nat) : Int) from h1)]
      simp only [Option.bind_some]
      rw [among_some (show ((0 : Nat) : Int) ≤ d ∧ d ≤ ((a.toNat : Nat) : Int) by omega)]
      simp only [Option.bind_some]
      rw [among_some (show ((0 : Nat) : Int) ≤ e ∧ e ≤ ((Sd49.PARTS : Nat) : Int) from h3)]
      simp only [Option.bind_some]
      rw [among_some (show ((1 : Nat) : Int) ≤ f ∧ f ≤ ((Sd49.PARTS : Nat) : Int) from h4)]
      rfl
theorem paid_eq {T : Sd49.Table} {c : Sd49.Asked} {c' : Sd49.Contract} {t : Int} (hc : Sd49.contractOf T c = some c') :
    Sd49.paid T c t = (Sd49.yearOf T c'.status t).bind fun t => if Sd49.worth T c'.status t (Sd49.left t (Sd49.benefits c')) = Sd49.zero then none else some (Sd49.paidUp T c' t) := by
  unfold Sd49.paid
  rw [hc]
  rfl
theorem Gives.mono {K : PySem.W.Frag} {R CR : Addr} {H H2 : Hp} {Q : VK} {E : XK} {v : Option Sd49.Fr} (g : Gives K R CR H Q E v) (s : Same H H2) : Gives K R CR H2 Q E v :=
  ⟨fun e => (g.1 e).mono s, fun f e t H' q s' r => g.2 f e t H' q (s.trans s') r⟩
theorem Gives.any {K : PySem.W.Frag} {R CR : Addr} {H : Hp} {Q : VK} {E E' : XK} {f : Sd49.Fr} (g : Gives K R CR H Q E (some f)) : Gives K R CR H Q E' (some f) := ⟨fun e => (by cases e), g.2⟩
/-! ### Insurance.contract_fraction -/
abbrev sInsInit : Stmt := inClass (top 72) 0
abbrev sCarry : Stmt := inClass (top 72) 1
abbrev sBegin : Stmt := inClass (top 72) 2
abbrev sTell : Stmt := inClass (top 72) 3
abbrev sFrac : Stmt := inClass (top 72) 4
abbrev sCF : Stmt := inClass (top 72) 5
structure TxIns (K : PySem.W.Frag) (mg : Str → Option Value) (C : Addr) : Prop where
  cl : Cls K C
  nT : NoAttr K C "table"
  begin : ∃ t, mg "BEGIN" = some (.int 0 t)
  alive : ∃ t, mg "ALIVE" = some (.int 1 t)
  mean : ∃ t, mg "MEAN" = some (.int 2 t)
  worth : ∃ t, mg "WORTH" = some (.int 3 t)
  premium : ∃ t, mg "PREMIUM" = some (.int 4 t)
  reserve : ∃ t, mg "RESERVE" = some (.int 5 t)
  paid : ∃ t, mg "PAID" = some (.int 6 t)
  text : ∃ t, mg "LONGEST_TEXT" = some (.int 4096 t)
  answer : ∃ t, mg "LONGEST_ANSWER" = some (.int 4096 t)
  max : mg "max" = none
  len : mg "len" = none
  ord : mg "ord" = none
section
variable {P : Program} {w : World} {K : PySem.W.Frag} {mg : Str → Option Value} {base : Heap}
/-- by a contract: the call's number, its last numbers, what is asked -/
def CFv (T : Sd49.Table) (c : Sd49.Contract) (p : Int) (ns : List Int) (v : Option Sd49.Fr) : Prop :=
  (p = 4 ∧ v = some (Sd49.premium T c)) ∨ (p = 5 ∧ ∃ t r, ns = [t, r] ∧ v = (Sd49.yearOf T c.status t).map (Sd49.reserve T c)) ∨
  (p = 6 ∧ ∃ t r, ns = [t, r] ∧ v = (Sd49.yearOf T c.status t).bind fun t => if Sd49.worth T c.status t (Sd49.left t (Sd49.benefits c)) = Sd49.zero then none else some (Sd49.paidUp T c t)) ∨
  (p = 7 ∧ ∃ t a d e f r, ns = [t, a, d, e, f, r] ∧ (¬ yearOk a d e f → v = none) ∧ (yearOk a d e f → v = (Sd49.yearOf T c.status t).bind fun t => (Sd49.yearOf T c.status ((t : Int) + 1)).map fun _ => Sd49.gain T c t a.toNat d.toNat e.toNat f.toNat))
def spCF (K : PySem.W.Frag) (R : Addr) (z : CC) : Sp := fun vs H Q E => ∃ (me con nl : Addr) (p : Int) (ns : List Int) (T : Sd49.Table) (c : Sd49.Contract) (L : Nat) (v : Option Sd49.Fr), vs = [.ref me, .int p, .ref con, .ref nl] ∧ ConAt z H con T c L ∧ WfK T c L ∧ SqL K H nl (ns.map V.int) ∧ CFv T c p ns v ∧ Gives K R z.r H Q E v
abbrev psCF : List Str := ["self", "call", "contract", "numbers"]
theorem scCF : FnScope psCF psCF (defScope sCF) := ⟨rfl, rfl, rfl, by decide +kernel, rfl, by decide +kernel, by decide +kernel⟩
theorem at_int {ns : List Int} {j : Nat} {v : Int} (h : ns[j]? = some v) : atI (ns.map V.int) (j : Int) = some (.int v) := atI_nat (j := j) (by rw [List.getElem?_map, h]; rfl)
theorem ok_cf {f R CI CY : Addr} {z : CC} {fd : FuncData} (F : Fun K "contract_fraction" "Insurance.contract_fraction" sCF f fd) (T : TxIns K mg CI) (GP : GF P w K mg base CX0 "premium" 4 ["contract"] (spPrem K R z)) (GR : GF P w K mg base (CXR P w) "reserve" 6 ["contract", "when"] (spReserve K R z))
    (GD : GF P w K mg base (CXR P w) "paid" 6 ["contract", "when"] (spPaid K R z)) (GG : GF P w K mg base (CXR P w) "gain" 7 psG (spGain K R z CY)) (GY : GC P w K mg base (CXR P w) "Year" CY 5 psY (spYearInit K R CY)) : FnOk P w K mg base (CXR P w) 8 f fd psCF (spCF K R z) := by
  refine F.okX scCF (fun vs H Q E h => ?_) (fun cdv A outer s H vs Q E hr h => ?_)
  · obtain ⟨me, con, nl, p, ns, T, c, L, v, rfl, _⟩ := h
    rfl
  · obtain ⟨me, con, nl, p, ns, Tb, c, L, v, rfl, hC, W, hS, hv, g⟩ := h
    refine ⟨_, pss_cons (ps_if (pt_cmpR op_eq (pv 1) (pe_cst rfl T.premium) (nomark _)) (pss_one (ps_ret (pe_gf GP hr pass0 (pa_cons (pv 2) pa_nil)))) pss_nil)
      (pss_cons (ps_if (pt_cmpR op_eq (pv 1) (pe_cst rfl T.reserve) (nomark _)) (pss_one (ps_ret (pe_gf GR hr pass_cx (pa_cons (pv 2) (pa_cons (pe_ix ix_list (pv 3) pe_int (fun _ _ => rfl)) pa_nil))))) pss_nil)
      (pss_cons (ps_if (pt_cmpR op_eq (pv 1) (pe_cst rfl T.paid) (nomark _)) (pss_one (ps_ret (pe_gf GD hr pass_cx (pa_cons (pv 2) (pa_cons (pe_ix ix_list (pv 3) pe_int (fun _ _ => rfl)) pa_nil))))) pss_nil)
      (pss_one (ps_ret (pe_gf GG hr pass_cx (pa_cons (pv 2) (pa_cons (pe_ix ix_list (pv 3) pe_int (fun _ _ => rfl)) (pa_cons (pe_gc GY hr pass_cx (pa_cons (pe_ix ix_list (pv 3) pe_int (fun _ _ => rfl)) (pa_cons (pe_ix ix_list (pv 3) pe_int (fun _ _ => rfl)) (pa_cons (pe_ix ix_list (pv 3) pe_int (fun _ _ => rfl)) (pa_cons (pe_ix ix_list (pv 3) pe_int (fun _ _ => rfl)) pa_nil))))) pa_nil)))))))), ?_⟩
    refine ⟨_, rfl, rfl, _, rfl, ?_⟩
    rcases hv with ⟨rfl, rfl⟩ | ⟨rfl, t, r, rfl, rfl⟩ | ⟨rfl, t, r, rfl, rfl⟩ | ⟨rfl, t, a, d, e, f, r, rfl, hv1, hv2⟩
    · exact iteT ⟨_, rfl, con, Tb, c, L, rfl, hC, W, g.any⟩
    · refine iteF ⟨_, rfl, rfl, _, rfl, iteT ⟨_, rfl, _, rfl, nl, _, _, _, rfl, rfl, hS, at_int (j := 0) rfl, con, Tb, c, L, t, rfl, hC, W, g⟩⟩
    · refine iteF ⟨_, rfl, rfl, _, rfl, iteF ⟨_, rfl, rfl, _, rfl, iteT ⟨_, rfl, _, rfl, nl, _, _, _, rfl, rfl, hS, at_int (j := 0) rfl, con, Tb, c, L, t, rfl, hC, W, g⟩⟩⟩
    · refine iteF ⟨_, rfl, rfl, _, rfl, iteF ⟨_, rfl, rfl, _, rfl, iteF ⟨_, rfl, _, rfl, nl, _, _, _, rfl, rfl, hS, at_int (j := 0) rfl, _, rfl, nl, _, _, _, rfl, rfl, hS, at_int (j := 1) rfl, _, rfl, nl, _, _, _, rfl, rfl, hS, at_int (j := 2) rfl, _, rfl, nl, _, _, _, rfl, rfl, hS, at_int (j := 3) rfl, _, rfl, nl, _, _, _, rfl, rfl, hS, at_int (j := 4) rfl, ?_⟩⟩⟩
      intro y dy ny ndy ney
      refine ⟨H, y, dy, a, d, e, f, rfl, upd_same, ny, Same.new ny ndy, fun c1 => g.1 (hv1 c1), fun c1 H2 S2 hY => ⟨rfl, ?_⟩⟩
      have ev := hv2 c1
      subst ev
      obtain ⟨k1, k2, k3, k4⟩ := c1
      exact ⟨con, y, Tb, c, L, t, a.toNat, d.toNat, e.toNat, f.toNat, rfl, hC.same S2, W, hY, by omega, by omega, by omega, by omega, by omega, g.mono S2⟩
/-! ### Insurance.fraction -/
def tbf (v : V) : List (Str × V) := putF "table" v []
theorem tbf_table (v : V) : (tbf v).lookup ("table" : Str) = some v := by
  unfold tbf
  rw [lookup_putF, if_pos rfl]
theorem tbf_no (v : V) {m : Str} (h : ¬ m = "table") : (tbf v).lookup m = none := by
  unfold tbf
  rw [lookup_putF, if_neg h]
  rfl
theorem tbf_put (v u : V) : putF "table" u (tbf v) = tbf u := by
  show (if ("table" : Str) = "table" then [(("table" : Str), u)] else _) = _
  rw [if_pos rfl]
  rfl
def spFrac (K : PySem.W.Frag) (R : Addr) (z : CC) (CI : Addr) : Sp := fun vs H Q E => ∃ (me dm t nl : Addr) (p : Int) (ns : List Int) (T : Sd49.Table) (c : Sd49.Call), vs = [.ref me, .int p, .ref nl] ∧ H me = some (.ins CI dm (tbf (.ref t))) ∧ TabAt z.r z.t H t T ∧ WfT T ∧ SqL K H nl (ns.map V.int) ∧ Asks p ns c ∧ Gives K R z.r H Q E (frOf T c)
theorem scFrac : FnScope ["self", "call", "numbers", "status", "payment"] ["self", "call", "numbers"] (defScope sFrac) := ⟨rfl, rfl, rfl, by decide +kernel, rfl, by decide +kernel, by decide +kernel⟩
theorem asks_st {p : Int} {ns : List Int} {c : Sd49.Call} (h : Asks p ns c) : ∃ s x y, ns[0]? = some s ∧ ns[1]? = some x ∧ ns[2]? = some y ∧ ∀ T, Sd49.statusOf T s x y = none → frOf T c = none := by
  cases h with
  | alive s x y t m => exact ⟨s, x, y, rfl, rfl, rfl, fun T e => by simp only [frOf]; rw [e]; rfl⟩
  | mean s x y m => exact ⟨s, x, y, rfl, rfl, rfl, fun T e => by simp only [frOf]; rw [e]; rfl⟩
  | worth s x y k m n r => exact ⟨s, x, y, rfl, rfl, rfl, fun T e => by simp only [frOf]; rw [e]; rfl⟩
  | premium s x y k m n h r => exact ⟨s, x, y, rfl, rfl, rfl, fun T e => by simp only [frOf]; rw [contract_st e]; rfl⟩
  | reserve s x y k m n h t r => exact ⟨s, x, y, rfl, rfl, rfl, fun T e => by simp only [frOf]; rw [contract_st e]; rfl⟩
  | paid s x y k m n h t r => exact ⟨s, x, y, rfl, rfl, rfl, fun T e => by simp only [frOf, Sd49.paid]; rw [contract_st e]; rfl⟩
  | gain s x y k m n h t a d e f r => exact ⟨s, x, y, rfl, rfl, rfl, fun T e => by simp only [frOf, Sd49.gained]; rw [contract_st e]; rfl⟩
abbrev psFr : List Str := ["self", "call", "numbers"]
theorem drop7 {ns : List Int} (h : 7 ≤ ns.length) : cutV (ns.map V.int) (some 7) none = (ns.drop 7).map V.int := by
  have := cut_from (xs := ns.map V.int) (j := 7) (by rw [List.length_map]; exact h)
  rw [List.map_drop]
  exact this
theorem ok_frac {f R CI : Addr} {z : CC} {fd : FuncData} (F : Fun K "fraction" "Insurance.fraction" sFrac f fd) (T : TxIns K mg CI) (GS : GC P w K mg base (CXR P w) "Status" z.s 5 ["self", "table", "kind", "x", "y"] (spStInit K R z.toCS)) (GA : GF P w K mg base (CXR P w) "alive" 5 ["status", "when"] (spAlive K R z.toCS))
    (GM' : GF P w K mg base CX0 "mean" 4 ["status"] (spMean K R z.toCS)) (GP : GC P w K mg base (CXR P w) "Payment" z.p 5 ["self", "kind", "wait", "years"] (spPayInit K R z.p)) (GW : GF P w K mg base CX0 "worth" 7 ["status", "payment"] (spWorth K R z.toCS z.p))
    (GK : GC P w K mg base (CXR P w) "Contract" z.c 7 psK (spConInit K R z)) (GF' : GM P w K mg base (CXR P w) CI "contract_fraction" 8 psCF (spCF K R z)) : FnOk P w K mg base (CXR P w) 9 f fd psFr (spFrac K R z CI) := by
  refine F.okX scFrac (fun vs H Q E h => ?_) (fun cdv A outer s H vs Q E hr h => ?_)
  · obtain ⟨me, dm, t, nl, p, ns, T, c, rfl, _⟩ := h
    rfl
  · obtain ⟨me, dm, t, nl, p, ns, Tb, c, rfl, hm, hT, W, hS, hA, g⟩ := h
    refine ⟨_, pss_cons (ps_set (i := 3) scFrac.nd rfl (Or.inl rfl) (pe_gc GS hr pass_cx (pa_cons (pe_fld (pv 0) rfl) (pa_cons (pe_ix ix_list (pv 2) pe_int (fun _ _ => rfl)) (pa_cons (pe_ix ix_list (pv 2) pe_int (fun _ _ => rfl)) (pa_cons (pe_ix ix_list (pv 2) pe_int (fun _ _ => rfl)) pa_nil))))))
      (pss_cons (ps_if (pt_cmpR op_eq (pv 1) (pe_cst rfl T.alive) (nomark _)) (pss_one (ps_ret (pe_gf GA hr pass_cx (pa_cons (pv 3) (pa_cons (pe_ix ix_list (pv 2) pe_int (fun _ _ => rfl)) pa_nil))))) pss_nil)
      (pss_cons (ps_if (pt_cmpR op_eq (pv 1) (pe_cst rfl T.mean) (nomark _)) (pss_one (ps_ret (pe_gf GM' hr pass0 (pa_cons (pv 3) pa_nil)))) pss_nil)
      (pss_cons (ps_set (i := 4) scFrac.nd rfl (Or.inl rfl) (pe_gc GP hr pass_cx (pa_cons (pe_ix ix_list (pv 2) pe_int (fun _ _ => rfl)) (pa_cons (pe_ix ix_list (pv 2) pe_int (fun _ _ => rfl)) (pa_cons (pe_ix ix_list (pv 2) pe_int (fun _ _ => rfl)) pa_nil)))))
      (pss_cons (ps_if (pt_cmpR op_eq (pv 1) (pe_cst rfl T.worth) (nomark _)) (pss_one (ps_ret (pe_gf GW hr pass0 (pa_cons (pv 3) (pa_cons (pv 4) pa_nil))))) pss_nil)
      (pss_one (ps_ret (pe_gm (pv 0) T.cl GF' hr pass_cx (pa_cons (pv 1) (pa_cons (pe_gc GK hr pass_cx (pa_cons (pv 3) (pa_cons (pv 4) (pa_cons (pe_ix ix_list (pv 2) pe_int (fun _ _ => rfl)) pa_nil)))) (pa_cons (pe_slice sl_list (pv 2) (po_some pe_int) po_none) pa_nil)))))))))), ?_⟩
    obtain ⟨qs, qx, qy, e0, e1, e2, hno⟩ := asks_st hA
    refine ⟨_, rfl, me, CI, dm, _, _, rfl, hm, T.cl, T.nT, tbf_table _, _, rfl, nl, _, _, _, rfl, rfl, hS, at_int (j := 0) e0, _, rfl, nl, _, _, _, rfl, rfl, hS, at_int (j := 1) e1, _, rfl, nl, _, _, _, rfl, rfl, hS, at_int (j := 2) e2, ?_⟩
    intro u du nu ndu neu
    refine ⟨H, u, du, t, Tb, qs, qx, qy, rfl, upd_same, nu, Same.new nu ndu, hT, W, fun e => g.1 (hno Tb e), fun st est H2 S2 hSt => ⟨rfl, ?_⟩⟩
    have WS := wfS_of W est
    have g2 := g.mono S2
    have hS2 := S2.seq hS
    -- the payment, as calls 3 to 7 have it
    have pay : ∀ {k m n : Int} {D : Ends} {tt : TS}, ns[3]? = some k → ns[4]? = some m → ns[5]? = some n → (¬ payOk k m n → frOf Tb c = none) →
        (∀ (H3 : Hp) (y : Addr), payOk k m n → Same H2 H3 → PayAt z.p H3 y k.toNat m.toNat n.toNat → tt D [some (.ref me), some (.int p), some (.ref nl), some (.ref u), some (.ref y)] H3) →
        tSeq (tAsg (tMake z.p (spPayInit K R z.p) [] E (tCons (tOp (rIxL K) (tVar 2) (tC (.int 3))) (tCons (tOp (rIxL K) (tVar 2) (tC (.int 4))) (tCons (tOp (rIxL K) (tVar 2) (tC (.int 5))) tNil)))) (gName 4)) tt D [some (.ref me), some (.int p), some (.ref nl), some (.ref u), none] H2 := by
      intro k m n D tt i3 i4 i5 hp kk
      refine ⟨_, rfl, nl, _, _, _, rfl, rfl, hS2, at_int (j := 3) i3, _, rfl, nl, _, _, _, rfl, rfl, hS2, at_int (j := 4) i4, _, rfl, nl, _, _, _, rfl, rfl, hS2, at_int (j := 5) i5, ?_⟩
      intro y dy ny ndy ney
      refine ⟨H2, y, dy, k, m, n, rfl, upd_same, ny, Same.new ny ndy, fun e => g2.1 (hp e), fun c1 H3 S3 hY => ⟨rfl, ?_⟩⟩
      exact kk H3 y c1 S3 hY
    have con : ∀ {H3 : Hp} {y : Addr} {k m n h : Int}, Same H2 H3 → payOk k m n → PayAt z.p H3 y k.toNat m.toNat n.toNat → ns[6]? = some h → 7 ≤ ns.length → (¬ (1 ≤ h ∧ h ≤ 120) → frOf Tb c = none) →
        ((1 ≤ h ∧ h ≤ 120) → CFv Tb ⟨st, k.toNat, m.toNat, n.toNat, h.toNat⟩ p (ns.drop 7) (frOf Tb c)) →
        tRet (tMeth CI "contract_fraction" (spCF K R z) [] E (tVar 0) (tCons (tVar 1) (tCons (tMake z.c (spConInit K R z) [] E (tCons (tVar 3) (tCons (tVar 4) (tCons (tOp (rIxL K) (tVar 2) (tC (.int 6))) tNil)))) (tCons (tSl (rSlL K) (tVar 2) (tPart (tC (.int 7))) tNoPart) tNil)))) { nx := fun _ H' => Q .non H', rt := Q } [some (.ref me), some (.int p), some (.ref nl), some (.ref u), some (.ref y)] H3 := by
      intro H3 y k m n h S3 c1 hY i6 hlen hno7 hcf
      have T3 := S2.trans S3
      obtain ⟨k1, k2, k3⟩ := id c1
      refine ⟨_, rfl, me, dm, _, rfl, T3 _ _ hm, tbf_no _ (by decide +kernel), _, rfl, _, rfl, _, rfl, _, rfl, nl, _, _, _, rfl, rfl, T3.seq hS, at_int (j := 6) i6, ?_⟩
      intro q dq nq ndq neq
      refine ⟨H3, q, dq, u, y, Tb, st, k.toNat, m.toNat, n.toNat, h, rfl, upd_same, nq, Same.new nq ndq, hSt.same S3, WS, hY, by omega, by omega, by omega, fun e => (g2.mono S3).1 (hno7 e), fun c2 H4 S4 hC => ⟨rfl, ?_⟩⟩
      refine ⟨_, rfl, _, rfl, nl, _, rfl, S4.seq (T3.seq hS), fun q3 hq3 => ?_⟩
      rw [drop7 hlen]
      have WK := wfK_of (T := Tb) (c := ⟨st, k.toNat, m.toNat, n.toNat, h.toNat⟩) WS (by show k.toNat ≤ 6; omega) (by show m.toNat ≤ 120; omega) (by show n.toNat ≤ 120; omega) (by show 1 ≤ h.toNat ∧ h.toNat ≤ 120; omega)
      exact ⟨me, q, q3, p, ns.drop 7, Tb, _, _, _, rfl, hC.same (Same.lay hq3), WK, SqL.of upd_same, hcf c2, (g2.mono (S3.trans S4)).mono (Same.lay hq3)⟩
    refine ⟨_, rfl, rfl, _, rfl, ?_⟩
    cases hA with
    | alive s x y t m =>
      cases e0
      cases e1
      cases e2
      refine iteT ⟨_, rfl, _, rfl, nl, _, _, _, rfl, rfl, hS2, at_int (j := 3) rfl, u, Tb, st, t, rfl, hSt, WS, ?_⟩
      simp only [frOf] at g2
      rw [est] at g2
      exact g2
    | mean s x y m =>
      cases e0
      cases e1
      cases e2
      refine iteF ⟨_, rfl, rfl, _, rfl, iteT ⟨_, rfl, u, Tb, st, rfl, hSt, WS, ?_⟩⟩
      simp only [frOf] at g2
      rw [est] at g2
      exact Gives.any g2
    | worth s x y k m n r =>
      cases e0
      cases e1
      cases e2
      refine iteF ⟨_, rfl, rfl, _, rfl, iteF (pay (k := k) (m := m) (n := n) rfl rfl rfl (fun e => ?_) fun H3 y' c1 S3 hY => ?_)⟩
      · simp only [frOf]
        rw [est]
        simp only [Option.bind_some]
        by_cases h1 : 0 ≤ k ∧ k ≤ 6
        · rw [among_some (by simpa using h1)]
          simp only [Option.bind_some]
          by_cases h2 : 0 ≤ m ∧ m ≤ 120
          · rw [among_some (by simpa using h2)]
            simp only [Option.bind_some]
            by_cases h3 : 0 ≤ n ∧ n ≤ 120
            · exact absurd ⟨h1, h2, h3⟩ e
            · rw [among_none (by simpa using h3)]
              rfl
          · rw [among_none (by simpa using h2)]
            rfl
        · rw [among_none (by simpa using h1)]
          rfl
      · obtain ⟨k1, k2, k3⟩ := id c1
        refine ⟨_, rfl, rfl, _, rfl, iteT ⟨_, rfl, _, rfl, u, y', Tb, st, k.toNat, m.toNat, n.toNat, rfl, hSt.same S3, WS, hY, by omega, by omega, by omega, ?_⟩⟩
        have g3 := g2.mono S3
        simp only [frOf] at g3
        rw [est] at g3
        simp only [Option.bind_some] at g3
        rw [among_some (by simpa using k1)] at g3
        simp only [Option.bind_some] at g3
        rw [among_some (by simpa using k2)] at g3
        simp only [Option.bind_some] at g3
        rw [among_some (by simpa using k3)] at g3
        exact Gives.any g3
    | premium s x y k m n h r =>
      cases e0
      cases e1
      cases e2
      refine iteF ⟨_, rfl, rfl, _, rfl, iteF (pay (k := k) (m := m) (n := n) rfl rfl rfl (fun e => ?_) fun H3 y' c1 S3 hY => ?_)⟩
      · simp only [frOf]
        rw [contract_pay e]
        rfl
      · refine ⟨_, rfl, rfl, _, rfl, iteF (con (h := h) S3 c1 hY rfl (by simp) (fun e => ?_) fun c2 => .inl ⟨rfl, ?_⟩)⟩
        · simp only [frOf]
          rw [contract_eq est c1, among_none (by simpa using e)]
          rfl
        · simp only [frOf]
          rw [contract_eq est c1, among_some (by simpa using c2)]
          rfl
    | reserve s x y k m n h t r =>
      cases e0
      cases e1
      cases e2
      refine iteF ⟨_, rfl, rfl, _, rfl, iteF (pay (k := k) (m := m) (n := n) rfl rfl rfl (fun e => ?_) fun H3 y' c1 S3 hY => ?_)⟩
      · simp only [frOf]
        rw [contract_pay e]
        rfl
      · refine ⟨_, rfl, rfl, _, rfl, iteF (con (h := h) S3 c1 hY rfl (by simp) (fun e => ?_) fun c2 => .inr (.inl ⟨rfl, t, r, rfl, ?_⟩))⟩
        · simp only [frOf]
          rw [contract_eq est c1, among_none (by simpa using e)]
          rfl
        · simp only [frOf]
          rw [contract_eq est c1, among_some (by simpa using c2)]
          rfl
    | paid s x y k m n h t r =>
      cases e0
      cases e1
      cases e2
      refine iteF ⟨_, rfl, rfl, _, rfl, iteF (pay (k := k) (m := m) (n := n) rfl rfl rfl (fun e => ?_) fun H3 y' c1 S3 hY => ?_)⟩
      · simp only [frOf, Sd49.paid]
        rw [contract_pay e]
        rfl
      · refine ⟨_, rfl, rfl, _, rfl, iteF (con (h := h) S3 c1 hY rfl (by simp) (fun e => ?_) fun c2 => .inr (.inr (.inl ⟨rfl, t, r, rfl, ?_⟩)))⟩
        · simp only [frOf, Sd49.paid]
          rw [contract_eq est c1, among_none (by simpa using e)]
          rfl
        · simp only [frOf]
          rw [paid_eq (by rw [contract_eq est c1, among_some (by simpa using c2)]; rfl)]
    | gain s x y k m n h t a d e f r =>
      cases e0
      cases e1
      cases e2
      refine iteF ⟨_, rfl, rfl, _, rfl, iteF (pay (k := k) (m := m) (n := n) rfl rfl rfl (fun e => ?_) fun H3 y' c1 S3 hY => ?_)⟩
      · simp only [frOf, Sd49.gained]
        rw [contract_pay e]
        rfl
      · refine ⟨_, rfl, rfl, _, rfl, iteF (con (h := h) S3 c1 hY rfl (by simp) (fun e => ?_) fun c2 => .inr (.inr (.inr ⟨rfl, t, a, d, e, f, r, rfl, fun c3 => ?_, fun c3 => ?_⟩)))⟩
        · simp only [frOf, Sd49.gained]
          rw [contract_eq est c1, among_none (by simpa using e)]
          rfl
        · simp only [frOf]
          exact gained_no c3
        · simp only [frOf]
          rw [gained_eq (by rw [contract_eq est c1, among_some (by simpa using c2)]; rfl) c3]
end
end LT
end
section
set_option linter.all false
namespace LT
open Sd49
/-! ### the list of calls -/
abbrev NCall := List (List Int)
def isBegin : NCall → Bool
  | (0 :: _) :: _ => true
  | _ => false
theorem asks_of {p : Int} {k : Nat} {l : List Int} (hk : numbersOf p = some k) (hl : l.length = k) : ∃ c, Asks p l c ∧ PySd49.whole [p :: l] = [p :: l] ∧ Sd49Neutral.callOf [p :: l] = some c ∧ isBegin [p :: l] = false ∧ ∀ t n, c ≠ .begin_ t n := by
  unfold numbersOf at hk
  repeat' (split at hk)
  all_goals cases hk
  all_goals (rename_i hp; subst hp)
  · match l, hl with
    | [a, b, c, d, e], _ => exact ⟨_, .alive a b c d e, rfl, rfl, rfl, fun _ _ => Call.noConfusion⟩
  · match l, hl with
    | [a, b, c, d], _ => exact ⟨_, .mean a b c d, rfl, rfl, rfl, fun _ _ => Call.noConfusion⟩
  · match l, hl with
    | [a, b, c, d, e, f, g], _ => exact ⟨_, .worth a b c d e f g, rfl, rfl, rfl, fun _ _ => Call.noConfusion⟩
  · match l, hl with
    | [a, b, c, d, e, f, g, h], _ => exact ⟨_, .premium a b c d e f g h, rfl, rfl, rfl, fun _ _ => Call.noConfusion⟩
  · match l, hl with
    | [a, b, c, d, e, f, g, h, i], _ => exact ⟨_, .reserve a b c d e f g h i, rfl, rfl, rfl, fun _ _ => Call.noConfusion⟩
  · match l, hl with
    | [a, b, c, d, e, f, g, h, i], _ => exact ⟨_, .paid a b c d e f g h i, rfl, rfl, rfl, fun _ _ => Call.noConfusion⟩
  · match l, hl with
    | [a, b, c, d, e, f, g, h, i, j, k, l, m], _ => exact ⟨_, .gain a b c d e f g h i j k l m, rfl, rfl, rfl, fun _ _ => Call.noConfusion⟩
theorem asks_last {p : Int} {l : List Int} {c : Sd49.Call} (h : Asks p l c) : ∃ m, l = m ++ [roomOf c] := by
  cases h with
  | alive s x y t m => exact ⟨[s, x, y, t], rfl⟩
  | mean s x y m => exact ⟨[s, x, y], rfl⟩
  | worth s x y k m n r => exact ⟨[s, x, y, k, m, n], rfl⟩
  | premium s x y k m n h r => exact ⟨[s, x, y, k, m, n, h], rfl⟩
  | reserve s x y k m n h t r => exact ⟨[s, x, y, k, m, n, h, t], rfl⟩
  | paid s x y k m n h t r => exact ⟨[s, x, y, k, m, n, h, t], rfl⟩
  | gain s x y k m n h t a d e f r => exact ⟨[s, x, y, k, m, n, h, t, a, d, e, f], rfl⟩
/-- a call that lies at i: where it ends, the state behind it, what it answers -/
def CallAt (ns : List Int) (i i' : Nat) (s s' : Option Table) (ans : List Int) : Prop :=
  (∃ (n : Nat) (bs : List Nat), ns[i]? = some 0 ∧ ns[i + 1]? = some (n : Int) ∧ i + 2 + n ≤ ns.length ∧ (ns.drop (i + 2)).take n = bs.map (fun (x : Nat) => (x : Int)) ∧ n ≤ 4096 ∧ i' = i + 2 + n ∧
    ((∃ k : Nat, Sd49.read bs = .error k ∧ ans = [-100 - (k : Int)] ∧ s' = s) ∨ (∃ T, Sd49.read bs = .ok T ∧ ans = [0] ∧ s' = some T))) ∨
  (∃ (p : Int) (k : Nat) (c : Sd49.Call) (T : Table), ns[i]? = some p ∧ p ≠ 0 ∧ numbersOf p = some k ∧ i + 1 + k ≤ ns.length ∧ Asks p ((ns.drop (i + 1)).take k) c ∧ s = some T ∧ s' = s ∧ i' = i + 1 + k ∧
    ans = (answer (roomOf c) (frOf (nrm T) c)).ret :: (answer (roomOf c) (frOf (nrm T) c)).out.map (fun (x : Nat) => (x : Int)))
/-- what may be asked from a state on -/
def Good (s : Option Table) (cs : List NCall) : Prop := cs = [] ∨ (∃ T, s = some T ∧ WfT T ∧ ∀ c ∈ cs, Sd49Neutral.asked1 c = true ∧ isBegin c = false) ∨
  (s = none ∧ ∃ n t r, cs = [[0, n], t] :: r ∧ Sd49Neutral.asked1 [[0, n], t] = true ∧ (r = [] ∨ (Sd49Neutral.step s [[0, n], t]).2 = [0]) ∧ ∀ c ∈ r, Sd49Neutral.asked1 c = true ∧ isBegin c = false)
theorem good_of {l : List NCall} (h : Sd49Neutral.asked l = true) : Good none l ∧ l ≠ [] ∧ Sd49Neutral.total none l < 1000000 := by
  unfold Sd49Neutral.asked at h
  simp only [Bool.and_eq_true, decide_eq_true_eq] at h
  obtain ⟨⟨ha, ht⟩, hm⟩ := h
  cases l with
  | nil => cases hm
  | cons c r =>
    simp only [Bool.and_eq_true] at hm
    obtain ⟨hr, hc⟩ := hm
    rw [List.all_cons, Bool.and_eq_true] at ha
    refine ⟨.inr (.inr ⟨rfl, ?_⟩), by simp, ht⟩
    have hr' : ∀ x ∈ r, Sd49Neutral.asked1 x = true ∧ isBegin x = false := fun x hx => by
      refine ⟨List.all_eq_true.mp ha.2 x hx, ?_⟩
      have q := List.all_eq_true.mp hr x hx
      unfold isBegin
      split
      · cases q
      · rfl
    split at hc
    · rename_i n t
      refine ⟨n, t, r, rfl, ha.1, ?_, hr'⟩
      rw [Bool.or_eq_true] at hc
      rcases hc with q | q
      · exact .inl (List.isEmpty_iff.mp q)
      · exact .inr (eq_of_beq q)
    · cases hc
theorem nats_ints {t : List Int} (h : t.all (fun (z : Int) => Sd49Neutral.natural z 8) = true) : t = (Sd49Neutral.nats t).map (fun (x : Nat) => (x : Int)) := by
  unfold Sd49Neutral.nats
  rw [List.map_map]
  induction t with
  | nil => rfl
  | cons a t ih =>
    rw [List.all_cons, Bool.and_eq_true] at h
    rw [List.map_cons, ← ih h.2]
    have : 0 ≤ a := by
      have q := h.1
      unfold Sd49Neutral.natural at q
      simp at q
      exact q.1
    congr 1
    show a = ((a.toNat : Nat) : Int)
    omega
/-- one call of the list -/
theorem call_at {ns : List Int} {i : Nat} {s : Option Table} {c : NCall} {cs : List NCall} (hi : i < ns.length) (hr : Rest ns i (c :: cs)) (hg : Good s ((c :: cs).map PySd49.whole)) :
    ∃ i', i < i' ∧ CallAt ns i i' s (Sd49Neutral.step s (PySd49.whole c)).1 (Sd49Neutral.step s (PySd49.whole c)).2 ∧ Rest ns i' cs ∧ Good (Sd49Neutral.step s (PySd49.whole c)).1 (cs.map PySd49.whole) := by
  obtain ⟨c', cs', e, hc⟩ := rest_step hr hi
  cases e
  rw [List.map_cons] at hg
  rcases hc with ⟨h0, n, h1, hl, rfl, hR⟩ | ⟨p, k, hp, hk, h0, hl, rfl, hR⟩
  · have hlen : ((ns.drop (i + 2)).take n).length = n := by
      rw [List.length_take, List.length_drop]
      omega
    have ew : PySd49.whole [[0], (ns.drop (i + 2)).take n] = [[0, (n : Int)], (ns.drop (i + 2)).take n] := by
      show [[0, ((((ns.drop (i + 2)).take n).length : Nat) : Int)], (ns.drop (i + 2)).take n] = _
      rw [hlen]
    rw [ew] at hg ⊢
    generalize hT : (ns.drop (i + 2)).take n = t at *
    rcases hg with q | ⟨T, _, _, q⟩ | ⟨rfl, n', t', r, e, ha, hz, hr'⟩
    · cases q
    · have := (q _ (List.mem_cons_self ..)).2
      cases this
    · cases e
      have ha2 : (Sd49Neutral.whole32 (n : Int) && (t.all (fun (z : Int) => Sd49Neutral.natural z 8) && Sd49Neutral.long t n 0 4096)) = true := ha
      simp only [Bool.and_eq_true] at ha2
      obtain ⟨_, hb, hlo⟩ := ha2
      have hn : n ≤ 4096 := by
        unfold Sd49Neutral.long at hlo
        rw [decide_eq_true_eq, hlen] at hlo
        split at hlo
        · rename_i z
          omega
        · omega
      have hbs := nats_ints hb
      have hsz : sized (n : Int) = true := by
        unfold sized TEXT
        simp
        omega
      have es : Sd49Neutral.step none [[0, (n : Int)], t] = (match Sd49.read (Sd49Neutral.nats t) with
          | .error k => (none, [-100 - (k : Int)])
          | .ok T => (some T, [0])) := by
        show ((does none (.begin_ (Sd49Neutral.nats t) (n : Int))).1, (does none (.begin_ (Sd49Neutral.nats t) (n : Int))).2.ret :: Sd49Neutral.ints (does none (.begin_ (Sd49Neutral.nats t) (n : Int))).2.out) = _
        simp only [does]
        rw [hsz]
        simp only [Bool.true_eq_false, if_false]
        cases Sd49.read (Sd49Neutral.nats t) <;> rfl
      refine ⟨i + 2 + n, by omega, .inl ⟨n, Sd49Neutral.nats t, h0, h1, hl, by rw [hT]; exact hbs, hn, rfl, ?_⟩, hR, ?_⟩
      · rw [es]
        cases e : Sd49.read (Sd49Neutral.nats t) with
        | error k => exact .inl ⟨k, rfl, rfl, rfl⟩
        | ok T => exact .inr ⟨T, rfl, rfl, rfl⟩
      · rw [es] at hz ⊢
        cases e : Sd49.read (Sd49Neutral.nats t) with
        | error k =>
          rw [e] at hz
          rcases hz with z | z
          · exact .inl z
          · exfalso
            simp at z
            omega
        | ok T => exact .inr (.inl ⟨T, rfl, wf_read e, hr'⟩)
  · have hlen : ((ns.drop (i + 1)).take k).length = k := by
      rw [List.length_take, List.length_drop]
      omega
    obtain ⟨c, hA, ew, ec, eb, nb⟩ := asks_of hk hlen
    rw [ew] at hg ⊢
    rcases hg with q | ⟨T, rfl, W, q⟩ | ⟨rfl, n', t', r, e, _⟩
    · cases q
    · have es : Sd49Neutral.step (some T) [p :: (ns.drop (i + 1)).take k] = (some T, (answer (roomOf c) (frOf (nrm T) c)).ret :: (answer (roomOf c) (frOf (nrm T) c)).out.map (fun (x : Nat) => (x : Int))) := by
        unfold Sd49Neutral.step
        rw [ec]
        have e1 := does_eq T c nb
        have e2 := nrm_does W.down.1 c nb
        have e3 := does_eq (nrm T) c nb
        rw [e3, e1] at e2
        dsimp only at e2 ⊢
        rw [e1, e2]
        rfl
      rw [es]
      exact ⟨i + 1 + k, by omega, .inr ⟨p, k, c, T, h0, hp, hk, hl, hA, rfl, rfl, rfl, rfl⟩, hR, .inr (.inl ⟨T, rfl, W, fun x hx => q x (List.mem_cons_of_mem _ hx)⟩)⟩
    · rw [(List.cons.inj e).1] at eb
      cases eb
/-- the answers, told -/
def toldFrom (s : Option Table) (cs : List NCall) : List Int := PyFlat.told (PyFlat.played Sd49Neutral.step s cs)
theorem told_nil (s : Option Table) : toldFrom s [] = [] := rfl
theorem told_cons (s : Option Table) (c : NCall) (cs : List NCall) : toldFrom s (c :: cs) = (((Sd49Neutral.step s c).2.length : Int) :: (Sd49Neutral.step s c).2) ++ toldFrom (Sd49Neutral.step s c).1 cs := rfl
theorem told_len : ∀ (cs : List NCall) (s : Option Table), (toldFrom s cs).length = Sd49Neutral.total s cs + cs.length
  | [], s => rfl
  | c :: cs, s => by
    rw [told_cons, List.length_append, told_len cs]
    show (Sd49Neutral.step s c).2.length + 1 + _ = (Sd49Neutral.step s c).2.length + Sd49Neutral.total (Sd49Neutral.step s c).1 cs + (cs.length + 1)
    omega
theorem asked_all {l : List Int} (h : PySd49.answers_asked l = true) : ∃ cs, Rest l 0 cs ∧ Good none (cs.map PySd49.whole) ∧ PySd49.answers l = toldFrom none (cs.map PySd49.whole) ∧ (toldFrom none (cs.map PySd49.whole)).length ≤ 1000300 := by
  unfold PySd49.answers_asked at h
  cases e : PySd49.calls l with
  | none =>
    rw [e] at h
    cases h
  | some cs =>
    rw [e] at h
    have e2 := e
    unfold PySd49.calls at e
    cases e3 : PyFlat.calls PySd49.shape l.length l with
    | none =>
      rw [e3] at e
      cases e
    | some cs0 =>
      rw [e3] at e
      cases e
      simp only [Bool.and_eq_true] at h
      obtain ⟨hm, ha⟩ := h
      obtain ⟨hg, _, ht⟩ := good_of ha
      refine ⟨cs0, rest_all e3, hg, ?_, ?_⟩
      · unfold PySd49.answers
        rw [e2]
        rfl
      · rw [told_len]
        unfold PyFlat.atMost at hm
        rw [decide_eq_true_eq] at hm
        omega
end LT
end
section
set_option linter.all false
set_option Elab.async false
set_option maxRecDepth 100000
set_option maxHeartbeats 2000000
namespace LT
open PySem PySem.Spec PyProof.Rows L2 LX
/-- what is kept of a new table -/
theorem tab_frozen {CR C : Addr} {Hb H3 : Hp} {t : Addr} {T : Sd49.Table} (h : TabFr CR C Hb H3 t T) : ∃ G : Hp, TabAt CR C G t T ∧ Same G H3 ∧ ∀ b, Hb b ≠ none → G b = none := by
  obtain ⟨dx, r, l, dr, h1, h2, h3, n1, n2, n3⟩ := h
  refine ⟨fun b => if b = t ∨ b = r ∨ b = l then H3 b else none, ⟨dx, r, l, dr, ?_, ?_, ?_⟩, fun b o e => ?_, fun b hb => ?_⟩
  · show (if t = t ∨ t = r ∨ t = l then H3 t else none) = _
    rw [if_pos (.inl rfl)]
    exact h1
  · show (if r = t ∨ r = r ∨ r = l then H3 r else none) = _
    rw [if_pos (.inr (.inl rfl))]
    exact h2
  · show (if l = t ∨ l = r ∨ l = l then H3 l else none) = _
    rw [if_pos (.inr (.inr rfl))]
    exact h3
  · have e : (if b = t ∨ b = r ∨ b = l then H3 b else none) = some o := e
    split at e
    · exact e
    · cases e
  · show (if b = t ∨ b = r ∨ b = l then H3 b else none) = none
    rw [if_neg]
    rintro (rfl | rfl | rfl)
    · exact hb n1
    · exact hb n2
    · exact hb n3
theorem rf_no (n d : Int) {m : Str} (h1 : ¬ m = "top") (h2 : ¬ m = "bottom") : (rf n d).lookup m = none := by
  unfold rf
  rw [lookup_putF, if_neg h2, lookup_putF, if_neg h1]
  rfl
section
variable {P : Program} {w : World} {K : PySem.W.Frag} {mg : Str → Option Value} {base : Heap}
/-- the reading of raise C(..), where what was at first is changed since -/
theorem raise_free {R C f : Addr} {x : Str} {ar : List V → Option Int} {vs : List V} {n : Int} {H0 H : Hp} {E : XK} {E' : XK} (O : RC K mg R C f x) (ha : ar vs = some n) (hl : vs.length ≤ 9) (s : ∀ b, H b = none → H0 b = none) (hE : RefE K R H n E) :
    vs.length ≤ sizeLine ∧ ∀ x, H x = none → spSub (K := K) ar (.ref x :: vs) (upd H x (xo x C none)) (fun v H2 => v = .non ∧ ∃ x' C' dx, V.ref x = .ref x' ∧ H2 x' = some (xo x' C' (some dx)) ∧ xclsIn K C' = true ∧ H0 x' = none ∧ E (.ref C') (some dx) (L2.del H2 x')) E' := by
  refine ⟨by rw [sizeLine_eq]; omega, fun x nx => ⟨x, C, n, vs, rfl, ha, upd_same, O.xc.cls, O.st, fun dx h1 h2 => ⟨rfl, x, C, dx, rfl, upd_same, O.xc.cls, s x nx, ?_⟩⟩⟩
  exact made_ref hE O.sub O.gt nx h1 h2
/-! ### Insurance.__init__ -/
def spInsInit (C : Addr) : Sp := fun vs H Q _ => ∃ (p dx : Addr), vs = [.ref p] ∧ H p = some (.ins C dx []) ∧ ∀ H' : Hp, H' p = some (.ins C dx (tbf .non)) → (∀ b o, H b = some o → b ≠ p → H' b = some o) → Q .non H'
theorem scInsInit : FnScope ["self"] ["self"] (defScope sInsInit) := ⟨rfl, rfl, rfl, by decide +kernel, rfl, by decide +kernel, by decide +kernel⟩
theorem ok_insInit {f C : Addr} {fd : FuncData} (F : Fun K "__init__" "Insurance.__init__" sInsInit f fd) (T : TxIns K mg C) : FnOk P w K mg base CX0 1 f fd ["self"] (spInsInit C) := by
  refine F.ok scInsInit (fun vs H Q E h => ?_) (fun cdv A outer s H vs Q E hr h => ?_)
  · obtain ⟨p, dx, rfl, _⟩ := h
    rfl
  · obtain ⟨p, dx, rfl, hp, k⟩ := h
    refine ⟨_, pss_one (ps_fld (pv 0) pe_non rfl), ?_⟩
    refine ⟨_, rfl, p, C, dx, _, rfl, hp, T.cl, T.nT, (by show 0 < 1000; decide), ?_⟩
    exact k _ upd_same fun b o e hb => by rw [upd_ne hb]; exact e
/-! ### Insurance.begin -/
def spBegin (K : PySem.W.Frag) (R : Addr) (z : CC) (CI CD : Addr) : Sp := fun vs H Q E => ∃ (me dm rd dr a : Addr) (tv : V) (ns : List Int) (i n : Nat) (bs : List Nat), vs = [.ref me, .ref rd] ∧ H me = some (.ins CI dm (tbf tv)) ∧ H rd = some (.ins CD dr (df a (i : Nat))) ∧ SqL K H a (ns.map V.int) ∧
  ns[i]? = some (n : Int) ∧ i + 1 + n ≤ ns.length ∧ (ns.drop (i + 1)).take n = bs.map (fun (x : Nat) => (x : Int)) ∧ n ≤ 4096 ∧
  (∀ k : Nat, Sd49.read bs = .error k → RefE K R (upd H rd (.ins CD dr (df a ((i + 1 + n : Nat) : Int)))) (-100 - (k : Int)) E) ∧
  ∀ T, Sd49.read bs = .ok T → ∀ (H' G' : Hp) (q t : Addr), H' me = some (.ins CI dm (tbf (.ref t))) → (∀ b o, upd H rd (.ins CD dr (df a ((i + 1 + n : Nat) : Int))) b = some o → b ≠ me → H' b = some o) → TabAt z.r z.t G' t (nrm T) → Same G' H' → (∀ b, H b ≠ none → G' b = none) →
    H' q = some (.lst [.int 0]) → H q = none → Q (.ref q) H'
theorem scBegin : FnScope ["self", "reader", "count", "text"] ["self", "reader"] (defScope sBegin) := ⟨rfl, rfl, rfl, by decide +kernel, rfl, by decide +kernel, by decide +kernel⟩
theorem ok_begin {f R CI CD : Addr} {z : CC} {fd : FuncData} (F : Fun K "begin" "Insurance.begin" sBegin f fd) (T : TxIns K mg CI) (TD : TxRd K mg CD) (GT : GM P w K mg base CX0 CD "take_number" 1 ["self"] (spTake K CD)) (GTs : GM P w K mg base CX0 CD "take_numbers" 1 ["self", "count"] (spTakes K CD))
    (GD : GF P w K mg base (CXR P w) "demand_within" 4 psD (spDemand K R)) (GB : GF P w K mg base (CXR P w) "table_of" 5 ["text"] (spTable K R z.r z.t)) : FnOk P w K mg base (CXR P w) 6 f fd ["self", "reader"] (spBegin K R z CI CD) := by
  refine F.okX scBegin (fun vs H Q E h => ?_) (fun cdv A outer s H vs Q E hr h => ?_)
  · obtain ⟨me, dm, rd, dr, a, tv, ns, i, n, bs, rfl, _⟩ := h
    rfl
  · obtain ⟨me, dm, rd, dr, a, tv, ns, i, n, bs, rfl, hm, hrd, hS, hi, hl, hb, hn, kE, kQ⟩ := h
    have nmr : me ≠ rd := fun e => by
      rw [e, hrd] at hm
      injection hm with hm
      injection hm with _ _ hm
      rw [df_eq] at hm
      have := congrArg List.length hm
      cases this
    refine ⟨_, pss_cons (ps_set (i := 2) scBegin.nd rfl (Or.inl rfl) (pe_gm0 (pv 1) TD.cl GT hr pass0))
      (pss_cons (ps_set (i := 3) scBegin.nd rfl (Or.inl rfl) (pe_gm (pv 1) TD.cl GTs hr pass0 (pa_cons (pe_callB (call_max2 rfl) rfl T.max boot_max (pa_cons (pv 2) (pa_cons pe_int pa_nil))) pa_nil)))
      (pss_cons (ps_expr (pe_gf GD hr pass_cx (pa_cons (pv 2) (pa_cons pe_int (pa_cons (pe_cst rfl T.text) pa_nil)))))
      (pss_cons (ps_fld (pv 0) (pe_gf GB hr pass_cx (pa_cons (pv 3) pa_nil)) rfl)
      (pss_one (ps_ret (pe_lst (pa_cons pe_int pa_nil))))))), ?_⟩
    refine ⟨_, rfl, rd, dr, _, rfl, hrd, df_no _ _ (by decide +kernel) (by decide +kernel), rd, dr, a, ns, i, (n : Int), rfl, hrd, hS, hi, ?_⟩
    have em : (if (0 : Int) > (n : Int) then (0 : Int) else (n : Int)) = ((n : Nat) : Int) := by rw [if_neg (by omega)]
    refine ⟨_, rfl, rd, dr, _, rfl, upd_same, df_no _ _ (by decide +kernel) (by decide +kernel), _, rfl, _, _, rfl, rd, dr, a, ns, i + 1, n, ?_, upd_same, seq_upd hrd hS, hl, ?_⟩
    · try dsimp only
      rw [em]
      rfl
    rw [upd_upd]
    intro p hp
    have hpn : H p = none ∧ p ≠ rd := by
      by_cases e : p = rd
      · rw [e, upd_same] at hp
        cases hp
      · rw [upd_ne e] at hp
        exact ⟨hp, e⟩
    refine ⟨_, rfl, (n : Int), 0, 4096, rfl, fun _ => ?_, fun c => absurd ⟨by omega, by omega⟩ c⟩
    rw [hb]
    have S1 : Same (upd H rd (.ins CD dr (df a ((i + 1 + n : Nat) : Int)))) (upd (upd H rd (.ins CD dr (df a ((i + 1 + n : Nat) : Int)))) p (.lst ((bs.map fun (x : Nat) => (x : Int)).map V.int))) := Same.lay hp
    have eb : (bs.map fun (x : Nat) => (x : Int)).map V.int = byt bs := by
      unfold byt
      rw [List.map_map]
      rfl
    have hbl : bs.length ≤ 4096 := by
      have := congrArg List.length hb
      rw [List.length_take, List.length_map] at this
      omega
    refine ⟨_, rfl, p, bs, rfl, SqL.of (by rw [upd_same, eb]), hbl, fun k e => (kE k e).mono S1, fun Tb e H3 t S3 hF => ?_⟩
    have hm1 : upd H rd (.ins CD dr (df a ((i + 1 + n : Nat) : Int))) me = some (.ins CI dm (tbf tv)) := by rw [upd_ne nmr]; exact hm
    have hm3 := S3 _ _ (S1 _ _ hm1)
    obtain ⟨G, hG, sG, nG⟩ := tab_frozen hF
    have nG' : ∀ b, H b ≠ none → G b = none := fun b hb => nG b (by
      by_cases e : b = p
      · rw [e, upd_same]
        simp
      · rw [upd_ne e]
        by_cases e2 : b = rd
        · rw [e2, upd_same]
          simp
        · rw [upd_ne e2]
          exact hb)
    refine ⟨_, rfl, me, CI, dm, _, rfl, hm3, T.cl, T.nT, (by show 1 < 1000; decide), ?_⟩
    rw [tbf_put]
    refine ⟨(by show 1 ≤ sizeLine; decide), fun q hq => ?_⟩
    have hq3 : H3 q = none ∧ q ≠ me := by
      by_cases e : q = me
      · rw [e, upd_same] at hq
        cases hq
      · rw [upd_ne e] at hq
        exact ⟨hq, e⟩
    refine kQ Tb e _ G q t ?_ (fun b o e hb => ?_) hG (fun b o e => ?_) nG' upd_same ?_
    · rw [upd_ne (fun e => hq3.2 e.symm), upd_same]
    · rw [upd_ne (ne_of_none (S3 _ _ (S1 _ _ e)) hq3.1), upd_ne hb]
      exact S3 _ _ (S1 _ _ e)
    · have e3 := sG b o e
      have nb : b ≠ me := fun z => by
        rw [z, nG' me (by rw [hm]; simp)] at e
        cases e
      rw [upd_ne (ne_of_none e3 hq3.1), upd_ne nb]
      exact e3
    · have z1 := S1.free (S3.free hq3.1)
      by_cases e : q = rd
      · rw [e, upd_same] at z1
        cases z1
      · rw [upd_ne e] at z1
        exact z1
/-! ### Insurance.tell -/
def spTell (K : PySem.W.Frag) (R : Addr) (z : CC) (CI CD : Addr) : Sp := fun vs H Q E => ∃ (G : Hp) (me dm t rd dr a : Addr) (ns : List Int) (i k : Nat) (p : Int) (T : Sd49.Table) (c : Sd49.Call), vs = [.ref me, .int p, .ref rd] ∧ H me = some (.ins CI dm (tbf (.ref t))) ∧ H rd = some (.ins CD dr (df a (i : Nat))) ∧ SqL K H a (ns.map V.int) ∧
  numbersOf p = some k ∧ i + k ≤ ns.length ∧ Asks p ((ns.drop i).take k) c ∧ TabAt z.r z.t G t T ∧ WfT T ∧ Same G H ∧ G rd = none ∧
  (¬ (0 ≤ roomOf c ∧ roomOf c ≤ 4096) → RefE K R (upd H rd (.ins CD dr (df a ((i + k : Nat) : Int)))) (-2) E) ∧ (frOf T c = none → RefE K R (upd H rd (.ins CD dr (df a ((i + k : Nat) : Int)))) (-2) E) ∧
  (∀ f, frOf T c = some f → (0 ≤ roomOf c ∧ roomOf c ≤ 4096) → roomOf c < ((Sd49.told f).length : Int) → RefE K R (upd H rd (.ins CD dr (df a ((i + k : Nat) : Int)))) (-1) E) ∧
  ∀ f, frOf T c = some f → (0 ≤ roomOf c ∧ roomOf c ≤ 4096) → ¬ roomOf c < ((Sd49.told f).length : Int) → ∀ (H' : Hp) (q : Addr), Same (upd H rd (.ins CD dr (df a ((i + k : Nat) : Int)))) H' → H q = none → H' q = some (.lst (.int ((Sd49.told f).length : Int) :: byt (Sd49.told f))) → Q (.ref q) H'
theorem scTell : FnScope ["self", "call", "reader", "numbers", "most", "text", "sign"] ["self", "call", "reader"] (defScope sTell) := ⟨rfl, rfl, rfl, by decide +kernel, rfl, by decide +kernel, by decide +kernel⟩
theorem ok_tell {f R CI CD C fO N : Addr} {z : CC} {fd fdO : FuncData} (F : Fun K "tell" "Insurance.tell" sTell f fd) (T : TxIns K mg CI) (TD : TxRd K mg CD) (TR : TxRatio K z.r) (hN : DK K P w N nums) (mN : mg "NUMBERS" = some (.ref N)) (GTs : GM P w K mg base CX0 CD "take_numbers" 1 ["self", "count"] (spTakes K CD))
    (GD : GF P w K mg base (CXR P w) "demand_within" 4 psD (spDemand K R)) (GF' : GM P w K mg base (CXR P w) CI "fraction" 9 psFr (spFrac K R z CI)) (GX : GM P w K mg base CX0 z.r "text" 1 ["self"] (spText z.r))
    (O : RC K mg R C fO "TooLong") (GO : FnOk P w K mg base CX0 2 fO fdO ["self"] (spSub (K := K) arTooLong)) (bO : Binds K fdO ["self"] []) : FnOk P w K mg base (CXR P w) 10 f fd ["self", "call", "reader"] (spTell K R z CI CD) := by
  refine F.okX scTell (fun vs H Q E h => ?_) (fun cdv A outer s H vs Q E hr h => ?_)
  · obtain ⟨G, me, dm, t, rd, dr, a, ns, i, k, p, T, c, rfl, _⟩ := h
    rfl
  · obtain ⟨G, me, dm, t, rd, dr, a, ns, i, k, p, Tb, c, rfl, hm, hrd, hS, hk, hl, hA, hT, W, sG, nG, kR, kN, kL, kQ⟩ := h
    have hr3 : Room 3 _ := hr.mono (by decide)
    have nmr : me ≠ rd := fun e => by
      rw [e, hrd] at hm
      injection hm with hm
      injection hm with _ _ hm
      rw [df_eq] at hm
      have := congrArg List.length hm
      cases this
    have vn := valV_nums p
    rw [hk] at vn
    refine ⟨_, pss_cons (ps_if (pt_cmp (pc_notinK hN (pv 1) (pe_glob rfl mN rfl)) (by with_unfolding_all rfl)) (pss_one ps_never) pss_nil)
      (pss_cons (ps_set (i := 3) scTell.nd rfl (Or.inl rfl) (pe_gm (pv 2) TD.cl GTs hr pass0 (pa_cons (pe_dgetK hN (pe_glob rfl mN rfl) (pv 1) (fun _ _ => rfl)) pa_nil)))
      (pss_cons (ps_set (i := 4) scTell.nd rfl (Or.inl rfl) (pe_ix ix_list (pv 3) (pe_un un_neg pe_int) (fun _ _ => rfl)))
      (pss_cons (ps_expr (pe_gf GD hr pass_cx (pa_cons (pv 4) (pa_cons pe_int (pa_cons (pe_cst rfl T.answer) pa_nil)))))
      (pss_cons (ps_set (i := 5) scTell.nd rfl (Or.inl rfl) (pe_gm0 (pe_gm (pv 0) T.cl GF' hr pass_cx (pa_cons (pv 1) (pa_cons (pv 3) pa_nil))) TR.cl GX hr pass0))
      (pss_cons (ps_if (pt_cmpR op_gt (pe_callB call_len_str rfl T.len PySem.boot_len (pa_cons (pv 5) pa_nil)) (pv 4) (nomark _)) (pss_one (ps_raise (pe_xmake0 O.xc GO hr3 rfl O.nm bO pass0))) pss_nil)
      (pss_one (ps_ret (pe_op op_cat (pe_lst (pa_cons (pe_callB call_len_str rfl T.len PySem.boot_len (pa_cons (pv 5) pa_nil)) pa_nil))
        (pe_lc (own := [("sign", 6)]) rfl scTell.nd (pi_str (pv 5)) (blkOk_by (show blkC ["self", "call", "reader", "numbers", "most", "text", "sign"] (defScope sTell) _ _ = true by decide +kernel))
          (fun s' H' C cl fp => pg_name (i := 6) scTell.nd rfl (Or.inl rfl)) (fun s' H' C cl fp => pts_nil) (fun s' H' C cl fp => pe_callB call_ord rfl T.ord boot_ord (pa_cons (pv 6) pa_nil))))))))))), ?_⟩
    refine ⟨_, rfl, .inl p, rfl, _, rfl, ?_⟩
    rw [vn]
    refine iteF ?_
    refine ⟨_, rfl, rd, dr, _, rfl, hrd, df_no _ _ (by decide +kernel) (by decide +kernel), _, rfl, .inl p, .int (k : Nat), rfl, vn, rd, dr, a, ns, i, k, rfl, hrd, hS, hl, fun q hq => ?_⟩
    have hqn : H q = none ∧ q ≠ rd := by
      by_cases e : q = rd
      · rw [e, upd_same] at hq
        cases hq
      · rw [upd_ne e] at hq
        exact ⟨hq, e⟩
    generalize hns : (ns.drop i).take k = l at hA ⊢
    obtain ⟨m, hlast⟩ := asks_last hA
    have S1 : Same (upd H rd (.ins CD dr (df a ((i + k : Nat) : Int)))) (upd (upd H rd (.ins CD dr (df a ((i + k : Nat) : Int)))) q (.lst (l.map V.int))) := Same.lay hq
    have T1 : Same G (upd (upd H rd (.ins CD dr (df a ((i + k : Nat) : Int)))) q (.lst (l.map V.int))) := (sG.put nG).trans S1
    have hm1 : upd (upd H rd (.ins CD dr (df a ((i + k : Nat) : Int)))) q (.lst (l.map V.int)) me = some (.ins CI dm (tbf (.ref t))) := S1 _ _ (by rw [upd_ne nmr]; exact hm)
    refine ⟨_, rfl, 1, rfl, q, _, _, .int (roomOf c), rfl, rfl, SqL.of upd_same, by rw [hlast, List.map_append]; exact atI_last _ _, ?_⟩
    refine ⟨_, rfl, roomOf c, 0, 4096, rfl, fun c1 => ?_, fun c1 => (kR c1).mono S1⟩
    refine ⟨_, rfl, me, dm, _, rfl, hm1, tbf_no _ (by decide +kernel), _, rfl, _, rfl, me, dm, t, q, p, l, Tb, c, rfl, hm1, hT.same T1, W, SqL.of upd_same, hA, fun e => (kN e).mono S1, fun fr ef tl H2 r S2 hR => ?_⟩
    obtain ⟨dq, hq2⟩ := id hR
    have S12 := S1.trans S2
    refine ⟨r, dq, _, rfl, hq2, rf_no _ _ (by decide +kernel) (by decide +kernel), r, fr, rfl, hR, tl.1, tl.2, fun x hx hlen => ?_⟩
    have ex : (x.length : Int) = ((Sd49.told fr).length : Int) := by rw [TL.len_tl, hx]
    refine ⟨_, rfl, x, rfl, (by rw [sizeLine_eq]; omega), _, rfl, _, _, rfl, rfl, _, rfl, ?_⟩
    by_cases hlt : roomOf c < (x.length : Int)
    · rw [decide_eq_true hlt]
      rw [ex] at hlt
      refine iteT (raise_free (E' := E0) O (ar := arTooLong) (vs := []) (n := -1) rfl (by decide) (fun b e => ?_) ((kL fr ef c1 hlt).mono S12))
      have z1 := S12.free e
      by_cases e2 : b = rd
      · rw [e2, upd_same] at z1
        cases z1
      · rw [upd_ne e2] at z1
        exact z1
    · rw [decide_eq_false hlt]
      rw [ex] at hlt
      refine iteF ⟨_, rfl, x, rfl, (by rw [sizeLine_eq]; omega), (by show 1 ≤ sizeLine; decide), fun l1 hl1 => ?_⟩
      refine ⟨_, rfl, x, rfl, ?_⟩
      intro D hD
      have S3 : Same H2 (upd H2 l1 (.lst [.int (x.length : Nat)])) := Same.lay hl1
      refine lc_str (fun j H' => Same (upd H2 l1 (.lst [.int (x.length : Nat)])) H' ∧ H' D = some (.lst (byt ((TL.tl x).take j)))) ⟨Same.lay hD, upd_same⟩ ?_ ?_
      · rintro j ch H' hc ⟨S, hD'⟩
        refine ⟨rfl, ?_⟩
        refine tYes_of ⟨_, rfl, ⟨#[ch]⟩, rfl, rfl, _, hD', ?_, ?_, ?_⟩
        · rw [byt_len, List.length_take, sizeLine_eq]
          have := Nat.min_le_right j (TL.tl x).length
          rw [TL.len_tl] at hlen
          omega
        · intro b o e
          rw [upd_ne (ne_of_none e hD)]
          exact S b o e
        · have hc2 : (TL.tl x)[j]? = some ch := by
            show (x.cps.toList)[j]? = some ch
            rw [Array.getElem?_toList]
            exact hc
          rw [upd_same, take_snoc hc2]
          unfold byt
          rw [List.map_append]
          rfl
      · rintro H' ⟨S, hD'⟩
        have e1 : (TL.tl x).take x.cps.size = TL.tl x := List.take_of_length_le (by show x.cps.toList.length ≤ _; simp)
        rw [e1, hx] at hD'
        have hl1' : H' l1 = some (.lst [.int (x.length : Nat)]) := S _ _ upd_same
        refine ⟨l1, D, _, _, rfl, rfl, hl1', hD', ?_, fun v hv => ?_⟩
        · rw [byt_len, sizeLine_eq]
          show 1 + _ ≤ _
          have : (Sd49.told fr).length ≤ 8700 := by
            have := ex
            omega
          omega
        · refine kQ fr ef c1 hlt _ v ((S12.trans (S3.trans S)).trans (Same.lay hv)) ?_ ?_
          · have z1 := (S12.trans (S3.trans S)).free hv
            by_cases e : v = rd
            · rw [e, upd_same] at z1
              cases z1
            · rw [upd_ne e] at z1
              exact z1
          · rw [upd_same]
            show some (HO.lst ([V.int ((x.length : Nat) : Int)] ++ byt (Sd49.told fr))) = _
            rw [ex]
            rfl
end
end LT
end
section
set_option linter.all false
set_option Elab.async false
set_option maxRecDepth 100000
set_option maxHeartbeats 2000000
namespace LT
open PySem PySem.Spec PyProof.Rows L2 LX
abbrev sAnswers : Stmt := top 73
theorem ans_room {r : Int} {v : Option Sd49.Fr} (h : ¬ (0 ≤ r ∧ r ≤ 4096)) : Sd49.answer r v = ⟨-2, []⟩ := by
  unfold Sd49.answer
  rw [if_pos]
  unfold Sd49.sized Sd49.TEXT
  simp
  omega
theorem sized_of {r : Int} (h : 0 ≤ r ∧ r ≤ 4096) : Sd49.sized r = true := by
  unfold Sd49.sized Sd49.TEXT
  simp
  omega
theorem ans_none (r : Int) : Sd49.answer r none = ⟨-2, []⟩ := by
  unfold Sd49.answer
  split <;> rfl
theorem ans_long {r : Int} {f : Sd49.Fr} (h : 0 ≤ r ∧ r ≤ 4096) (hl : r < ((Sd49.told f).length : Int)) : Sd49.answer r (some f) = ⟨-1, []⟩ := by
  unfold Sd49.answer
  rw [sized_of h, if_neg (by decide)]
  dsimp only
  rw [if_pos hl]
theorem ans_ok {r : Int} {f : Sd49.Fr} (h : 0 ≤ r ∧ r ≤ 4096) (hl : ¬ r < ((Sd49.told f).length : Int)) : Sd49.answer r (some f) = ⟨((Sd49.told f).length : Int), Sd49.told f⟩ := by
  unfold Sd49.answer
  rw [sized_of h, if_neg (by decide)]
  dsimp only
  rw [if_neg hl]
section
variable {P : Program} {w : World} {K : PySem.W.Frag} {mg : Str → Option Value} {base : Heap}
/-! ### Insurance.carry_out -/
/-- behind a refusal that is caught -/
theorem ref_caught {R : Addr} {H1 : Hp} {n : Int} {len : Nat} {D : Ends} (hl : 3 < len) (h : ∀ (H' : Hp) (z : Addr), Same H1 H' → H1 z = none → H' z = some (.lst [.int n]) → D.rt (.ref z) H') :
    RefE K R H1 n (wTry K R 3 len (tRet (tLst (tCons (tXGet K (tVar 3) "answer") tNil))) D) := by
  intro C dx H' hsub hget hdx S
  refine ⟨C, dx, rfl, rfl, hsub, fun x σ' hx hlen => ?_⟩
  have ndx : dx ≠ x := ne_of_none hdx hx
  refine ⟨.ref x, List.getElem?_set_self (by omega), x, C, dx, _, .int n, rfl, upd_same, by rw [upd_ne ndx]; exact hdx, hget, rfl, (by show 1 ≤ sizeLine; decide), fun z hz => ?_⟩
  have S2 : Same H1 (upd H' x (xh x C dx)) := S.trans (Same.lay hx)
  exact h _ z (S2.trans (Same.lay hz)) (S2.free hz) upd_same
/-- the state behind some calls -/
def Kept (c : CS) (G : Hp) (tv : V) (s : Option Sd49.Table) : Prop := (s = none ∧ tv = .non) ∨ ∃ T t, s = some T ∧ tv = .ref t ∧ TabAt c.r c.t G t (nrm T) ∧ WfT T
def spCarry (K : PySem.W.Frag) (z : CC) (CI CD : Addr) : Sp := fun vs H Q _ => ∃ (G : Hp) (me dm rd dr a : Addr) (tv : V) (ns ans : List Int) (i i' : Nat) (s s' : Option Sd49.Table), vs = [.ref me, .ref rd] ∧ H me = some (.ins CI dm (tbf tv)) ∧ H rd = some (.ins CD dr (df a (i : Nat))) ∧ SqL K H a (ns.map V.int) ∧
  Kept z.toCS G tv s ∧ Same G H ∧ G me = none ∧ G rd = none ∧ CallAt ns i i' s s' ans ∧
  ∀ (H' G' : Hp) (tv' : V) (q : Addr), H' me = some (.ins CI dm (tbf tv')) → H' rd = some (.ins CD dr (df a (i' : Nat))) → (∀ b o, H b = some o → b ≠ me → b ≠ rd → H' b = some o) → Kept z.toCS G' tv' s' → Same G' H' → (∀ b, H b ≠ none → G b = none → G' b = none) →
    H' q = some (.lst (ans.map V.int)) → H q = none → Q (.ref q) H'
theorem scCarry : FnScope ["self", "reader", "call", "refusal"] ["self", "reader"] (defScope sCarry) := ⟨rfl, rfl, rfl, by decide +kernel, rfl, by decide +kernel, by decide +kernel⟩
theorem ok_carry {f R CI CD : Addr} {z : CC} {fd : FuncData} (F : Fun K "carry_out" "Insurance.carry_out" sCarry f fd) (T : TxIns K mg CI) (TD : TxRd K mg CD) (hR : xclsIn K R = true) (mR : mg "Refusal" = some (.ref R)) (GT : GM P w K mg base CX0 CD "take_number" 1 ["self"] (spTake K CD))
    (GB : GM P w K mg base (CXR P w) CI "begin" 6 ["self", "reader"] (spBegin K R z CI CD)) (GL : GM P w K mg base (CXR P w) CI "tell" 10 ["self", "call", "reader"] (spTell K R z CI CD)) : FnOk P w K mg base CX0 11 f fd ["self", "reader"] (spCarry K z CI CD) := by
  refine F.ok scCarry (fun vs H Q E h => ?_) (fun cdv A outer s H vs Q E hr h => ?_)
  · obtain ⟨G, me, dm, rd, dr, a, tv, ns, ans, i, i', s, s', rfl, _⟩ := h
    rfl
  · obtain ⟨G, me, dm, rd, dr, a, tv, ns, ans, i, i', st, st', rfl, hm, hrd, hS, hK, sG, nGm, nGr, hc, kQ⟩ := h
    have nmr : me ≠ rd := fun e => by
      rw [e, hrd] at hm
      injection hm with hm
      injection hm with _ _ hm
      rw [df_eq] at hm
      have := congrArg List.length hm
      cases this
    refine ⟨_, pss_cons (ps_set (i := 2) scCarry.nd rfl (Or.inl rfl) (pe_gm0 (pv 1) TD.cl GT hr pass0))
      (pss_one (ps_tryAs (X := (cxOf CX0 P w K mg base ["self", "reader", "call", "refusal"] "Insurance.carry_out" (defScope sCarry) f cdv A outer s H E).nox) (B := R) (i := 3) rfl rfl hR rfl mR scCarry.nd rfl rfl
        (fun pn xe E hE => pss_cons (ps_if (pt_cmpR op_eq (pv 2) (pe_cst rfl T.begin) (nomark _)) (pss_one (ps_ret (pe_gm (pv 0) T.cl GB hr hE (pa_cons (pv 1) pa_nil)))) pss_nil)
          (pss_one (ps_ret (pe_gm (pv 0) T.cl GL hr hE (pa_cons (pv 2) (pa_cons (pv 1) pa_nil))))))
        (fun pn x => pss_one (ps_ret (pe_lst (pa_cons (show PE (Cx.caught (cxOf CX0 P w K mg base ["self", "reader", "call", "refusal"] "Insurance.carry_out" (defScope sCarry) f cdv A outer s H E).nox pn x) _ (tXGet K (tVar 3) "answer") from pe_xget (pv 3) rfl) pa_nil)))))), ?_⟩
    -- a heap that differs from H in the reader alone, then grows
    have keep : ∀ {j : Int} {H' : Hp}, Same (upd H rd (.ins CD dr (df a j))) H' → ∀ b o, H b = some o → b ≠ me → b ≠ rd → H' b = some o := fun S b o e n1 n2 => S b o (by rw [upd_ne n2]; exact e)
    have free : ∀ {j : Int} {q : Addr}, upd H rd (.ins CD dr (df a j)) q = none → H q = none := fun {j q} e => by
      by_cases e2 : q = rd
      · rw [e2, upd_same] at e
        cases e
      · rw [upd_ne e2] at e
        exact e
    have mAt : ∀ {j : Int}, upd H rd (.ins CD dr (df a j)) me = some (.ins CI dm (tbf tv)) := fun {j} => by rw [upd_ne nmr]; exact hm
    rcases hc with ⟨n, bs, h0, h1, hl, hb, hn, rfl, hres⟩ | ⟨p, k, c, Tb, h0, hp, hk, hl, hA, rfl, rfl, rfl, rfl⟩
    · refine ⟨_, rfl, rd, dr, _, rfl, hrd, df_no _ _ (by decide +kernel) (by decide +kernel), rd, dr, a, ns, i, 0, rfl, hrd, hS, h0, ?_⟩
      refine ⟨_, rfl, rfl, _, rfl, iteT ?_⟩
      refine ⟨_, rfl, me, dm, _, rfl, mAt, tbf_no _ (by decide +kernel), _, rfl, me, dm, rd, dr, a, tv, ns, i + 1, n, bs, rfl, mAt, upd_same, seq_upd hrd hS, h1, by omega, hb, hn, ?_, ?_⟩
      · intro kk ek
        rw [upd_upd]
        refine ref_caught (by show 3 < 4; decide) fun H' q S nq hq => ?_
        rcases hres with ⟨k2, e2, rfl, rfl⟩ | ⟨Tb, e2, _⟩
        · rw [ek] at e2
          cases e2
          refine kQ H' G tv q (S _ _ mAt) ?_ (keep S) hK ((sG.put nGr).trans S) (fun b _ z => z) hq (free nq)
          rw [S _ _ upd_same, show i + 1 + 1 + n = i + 2 + n by omega]
        · rw [ek] at e2
          cases e2
      · intro Tb eT H' G' q t hm' kp hG sG' nG' hq nq
        rcases hres with ⟨k2, e2, _⟩ | ⟨T2, e2, rfl, rfl⟩
        · rw [eT] at e2
          cases e2
        · rw [eT] at e2
          cases e2
          rw [upd_upd] at kp
          refine kQ H' G' (.ref t) q hm' ?_ (fun b o e n1 n2 => kp b o (by rw [upd_ne n2]; exact e) n1) (.inr ⟨Tb, t, rfl, rfl, hG, wf_read eT⟩) sG' (fun b hb _ => nG' b ?_) hq (free nq)
          · rw [kp rd _ upd_same (fun e => nmr e.symm), show i + 1 + 1 + n = i + 2 + n by omega]
          · by_cases e2 : b = rd
            · rw [e2, upd_same]
              simp
            · rw [upd_ne e2]
              exact hb
    · obtain ⟨T', t, eT, rfl, hT, W⟩ : ∃ T' t, (some Tb : Option Sd49.Table) = some T' ∧ tv = .ref t ∧ TabAt z.r z.t G t (nrm T') ∧ WfT T' := by
        rcases hK with ⟨e, _⟩ | ⟨T', t, e1, e2, e3, e4⟩
        · cases e
        · exact ⟨T', t, e1, e2, e3, e4⟩
      cases eT
      refine ⟨_, rfl, rd, dr, _, rfl, hrd, df_no _ _ (by decide +kernel) (by decide +kernel), rd, dr, a, ns, i, p, rfl, hrd, hS, h0, ?_⟩
      refine ⟨_, rfl, rfl, _, rfl, ?_⟩
      rw [decide_eq_false (fun e => hp (by injection e with e))]
      refine iteF ?_
      have fin : ∀ {H' : Hp} {q : Addr} {l : List Int}, Same (upd H rd (.ins CD dr (df a ((i + 1 + k : Nat) : Int)))) H' → H q = none → l = (Sd49.answer (roomOf c) (frOf (nrm Tb) c)).ret :: (Sd49.answer (roomOf c) (frOf (nrm Tb) c)).out.map (fun (x : Nat) => (x : Int)) → H' q = some (.lst (l.map V.int)) → Q (.ref q) H' := by
        intro H' q l S nq el hq
        subst el
        exact kQ H' G (.ref t) q (S _ _ mAt) (S _ _ upd_same) (keep S) hK ((sG.put nGr).trans S) (fun b _ z => z) hq nq
      refine ⟨_, rfl, me, dm, _, rfl, mAt, tbf_no _ (by decide +kernel), _, rfl, _, rfl, G, me, dm, t, rd, dr, a, ns, i + 1, k, p, nrm Tb, c, rfl, mAt, upd_same, seq_upd hrd hS, hk, hl, hA, hT, nrm_wf W, sG.put nGr, nGr, ?_, ?_, ?_, ?_⟩
      · intro c1
        rw [upd_upd]
        exact ref_caught (by show 3 < 4; decide) fun H' q S nq hq => fin (l := [-2]) S (free nq) (by rw [ans_room c1]; rfl) hq
      · intro c1
        rw [upd_upd]
        exact ref_caught (by show 3 < 4; decide) fun H' q S nq hq => fin (l := [-2]) S (free nq) (by rw [c1, ans_none]; rfl) hq
      · intro fr ef c1 c2
        rw [upd_upd]
        exact ref_caught (by show 3 < 4; decide) fun H' q S nq hq => fin (l := [-1]) S (free nq) (by rw [ef, ans_long c1 c2]; rfl) hq
      · intro fr ef c1 c2 H' q S nq hq
        rw [upd_upd] at S
        refine fin (l := ((Sd49.told fr).length : Int) :: (Sd49.told fr).map (fun (x : Nat) => (x : Int))) S (free nq) (by rw [ef, ans_ok c1 c2]) ?_
        rw [hq, List.map_cons, List.map_map]
        rfl
/-! ### answers -/
def spAnswers (K : PySem.W.Frag) : Sp := fun vs H Q _ => ∃ (a : Addr) (ns : List Int), vs = [.ref a] ∧ SqL K H a (ns.map V.int) ∧ PySd49.answers_asked ns = true ∧ ∀ (H' : Hp) (q : Addr), Same H H' → H' q = some (.lst ((PySd49.answers ns).map V.int)) → Q (.ref q) H'
theorem scAnswers : FnScope ["calls", "reader", "insurance", "told", "answer"] ["calls"] (defScope sAnswers) := ⟨rfl, rfl, rfl, by decide +kernel, rfl, by decide +kernel, by decide +kernel⟩
theorem ok_answers {f CI CD : Addr} {z : CC} {fd : FuncData} (F : Fun K "answers" "answers" sAnswers f fd) (T : TxIns K mg CI) (TD : TxRd K mg CD) (GD : GC P w K mg base CX0 "CallReader" CD 1 ["self", "calls"] (spRdInit CD)) (GI : GC P w K mg base CX0 "Insurance" CI 1 ["self"] (spInsInit CI))
    (GA : GM P w K mg base CX0 CD "all_read" 1 ["self"] (spAllRead K CD)) (GK : GM P w K mg base CX0 CI "carry_out" 11 ["self", "reader"] (spCarry K z CI CD)) : FnOk P w K mg base CX0 12 f fd ["calls"] (spAnswers K) := by
  refine F.ok scAnswers (fun vs H Q E h => ?_) (fun cdv A outer s H vs Q E hr h => ?_)
  · obtain ⟨a, ns, rfl, _⟩ := h
    rfl
  · obtain ⟨a, ns, rfl, hS, hask, kQ⟩ := h
    obtain ⟨cs0, hR0, hG0, hans, hlen⟩ := asked_all hask
    refine ⟨_, pss_cons (ps_set (i := 1) scAnswers.nd rfl (Or.inl rfl) (pe_gc GD hr pass0 (pa_cons (pv 0) pa_nil)))
      (pss_cons (ps_set (i := 2) scAnswers.nd rfl (Or.inl rfl) (pe_gc0 GI hr pass0))
      (pss_cons (ps_set (i := 3) scAnswers.nd rfl (Or.inl rfl) (pe_lst pa_nil))
      (pss_cons (ps_while PassesOwn.never (pt_not (pt_val (pe_gm0 (pv 1) TD.cl GA hr pass0)))
        (pss_cons (ps_set (i := 4) scAnswers.nd rfl (Or.inl rfl) (pe_gm (pv 2) T.cl GK hr pass0 (pa_cons (pv 1) pa_nil)))
        (pss_cons (ps_expr (pe_bm PySem.F.plainAttrs_list PySem.F.slot_list_append PySem.F.type_list_append mt_append (pv 3) (pa_cons (pe_callB call_len_seq rfl T.len PySem.boot_len (pa_cons (pv 4) pa_nil)) pa_nil)))
        (pss_one (ps_expr (pe_bm PySem.F.plainAttrs_list PySem.F.slot_list_extend PySem.F.type_list_extend mt_extend (pv 3) (pa_cons (pv 4) pa_nil)))))))
      (pss_one (ps_ret (pv 3)))))), ?_⟩
    refine ⟨_, rfl, ?_⟩
    intro rd dr nrd ndr ner
    refine ⟨rd, dr, a, rfl, upd_same, fun H1 hrd1 k1 => ⟨rfl, ?_⟩⟩
    have S1 : Same H H1 := Same.made nrd ndr k1
    intro me dm nme ndm nem
    refine ⟨me, dm, rfl, upd_same, fun H2 hme2 k2 => ⟨rfl, ?_⟩⟩
    have S2 : Same H1 H2 := Same.made nme ndm k2
    have hrd2 := S2 _ _ hrd1
    refine ⟨Nat.zero_le _, fun q hq => ?_⟩
    have S3 : Same H2 (upd H2 q (.lst [])) := Same.lay hq
    have fq : H q = none := (S1.trans S2).free hq
    have fm : H me = none := S1.free nme
    have nrm : rd ≠ me := ne_of_none hrd1 nme
    have nrq : rd ≠ q := ne_of_none hrd2 hq
    have nmq : me ≠ q := ne_of_none hme2 hq
    refine ⟨fun m σ H' => ∃ (i : Nat) (st : Option Sd49.Table) (cs : List NCall) (acc : List Int) (tv : V) (G : Hp) (v : Option V), m = ns.length - i ∧ σ = [some (.ref a), some (.ref rd), some (.ref me), some (.ref q), v] ∧ Same H H' ∧ H' rd = some (.ins CD dr (df a (i : Nat))) ∧ H' me = some (.ins CI dm (tbf tv)) ∧ H' q = some (.lst (acc.map V.int)) ∧
        Kept z.toCS G tv st ∧ Same G H' ∧ G me = none ∧ G rd = none ∧ G q = none ∧ Rest ns i cs ∧ Good st (cs.map PySd49.whole) ∧ PySd49.answers ns = acc ++ toldFrom st (cs.map PySd49.whole),
      ⟨_, 0, none, cs0, [], .non, fun _ => none, none, rfl, rfl, (S1.trans S2).trans S3, S3 _ _ hrd2, S3 _ _ hme2, upd_same, .inl ⟨rfl, rfl⟩, fun _ _ e => (by cases e), rfl, rfl, rfl, hR0, hG0, hans⟩, ?_⟩
    rintro m σ H' ⟨i, st, cs, acc, tv, G, v, rfl, rfl, S, hrd, hme, hqq, hK, sG, g1, g2, g3, hR, hG, ha⟩
    refine ⟨_, rfl, rd, dr, _, rfl, hrd, df_no _ _ (by decide +kernel) (by decide +kernel), rd, dr, a, ns, i, rfl, hrd, S.seq hS, _, rfl, ?_⟩
    by_cases hi : ns.length ≤ i
    · rw [decide_eq_true hi]
      refine iteF ⟨_, rfl, kQ H' q S ?_⟩
      have := rest_end hR hi
      subst this
      rw [List.map_nil, told_nil, List.append_nil] at ha
      rw [ha]
      exact hqq
    · rw [decide_eq_false hi]
      obtain ⟨c, cs', rfl, _⟩ := rest_step hR (by omega)
      obtain ⟨i', hi', hC, hR', hG'⟩ := call_at (by omega) hR hG
      rw [List.map_cons, told_cons] at ha
      generalize (Sd49Neutral.step st (PySd49.whole c)).2 = ans at hC ha
      generalize (Sd49Neutral.step st (PySd49.whole c)).1 = st' at hC ha hG'
      have hbig : acc.length + (ans.length + 1) ≤ 1000300 := by
        rw [← hans, ha] at hlen
        simp only [List.length_append, List.length_cons] at hlen
        omega
      refine iteT ⟨fun σ' H2 => ∃ (tv' : V) (G' : Hp) (v : Option V), σ' = [some (.ref a), some (.ref rd), some (.ref me), some (.ref q), v] ∧ Same H H2 ∧ H2 rd = some (.ins CD dr (df a (i' : Nat))) ∧ H2 me = some (.ins CI dm (tbf tv')) ∧ H2 q = some (.lst ((acc ++ ((ans.length : Int) :: ans)).map V.int)) ∧ Kept z.toCS G' tv' st' ∧ Same G' H2 ∧ G' me = none ∧ G' rd = none ∧ G' q = none, ?_, ?_⟩
      · rintro σ' H2 ⟨tv', G', v, rfl, a1, a2, a3, a4, a5, a6, a7, a8, a9⟩
        exact ⟨ns.length - i', by omega, i', st', cs', acc ++ ((ans.length : Int) :: ans), tv', G', v, rfl, rfl, a1, a2, a3, a4, a5, a6, a7, a8, a9, hR', hG', by rw [ha, List.append_assoc]⟩
      · refine ⟨_, rfl, me, dm, _, rfl, hme, tbf_no _ (by decide +kernel), _, rfl, G, me, dm, rd, dr, a, tv, ns, ans, i, i', st, st', rfl, hme, hrd, S.seq hS, hK, sG, g1, g2, hC, fun H3 G' tv' y b1 b2 b3 b4 b5 b6 b7 b8 => ?_⟩
        have hq3 : H3 q = some (.lst (acc.map V.int)) := b3 _ _ hqq nmq.symm nrq.symm
        have nyq : y ≠ q := fun e => by
          rw [e, hqq] at b8
          cases b8
        have nG' : ∀ x, (∃ o, H' x = some o) → G x = none → G' x = none := fun x ⟨o, e⟩ n => b6 x (by rw [e]; simp) n
        have gq := nG' q ⟨_, hqq⟩ g3
        refine ⟨_, rfl, .inl ⟨rfl, _, SqL.of hq3⟩, _, rfl, y, _, rfl, .inl (SqL.of b7), q, _, _, rfl, rfl, hq3, by rw [List.length_map, sizeLine_eq]; omega, ?_⟩
        have y4 : upd H3 q (.lst (acc.map V.int ++ [.int (((ans.map V.int).length : Nat) : Int)])) y = some (.lst (ans.map V.int)) := by rw [upd_ne nyq]; exact b7
        refine ⟨_, rfl, .inl ⟨rfl, _, SqL.of upd_same⟩, _, rfl, q, y, _, _, rfl, rfl, upd_same, y4, by rw [List.length_append, List.length_map, List.length_map, sizeLine_eq]; show _ + 1 + _ ≤ _; omega, ?_⟩
        have SH : Same H H3 := fun b o e => b3 b o (S b o e) (fun z => by rw [z, fm] at e; cases e) (fun z => by rw [z, nrd] at e; cases e)
        refine ⟨tv', G', _, rfl, (SH.put fq).put fq, ?_, ?_, ?_, b4, (b5.put gq).put gq, nG' me ⟨_, hme⟩ g1, nG' rd ⟨_, hrd⟩ g2, gq⟩
        · rw [upd_ne nrq, upd_ne nrq]
          exact b2
        · rw [upd_ne nmq, upd_ne nmq]
          exact b1
        · rw [upd_same, List.length_map, List.map_append, List.map_cons, List.append_assoc]
          rfl
end
end LT
end
section
set_option linter.all false
set_option Elab.async false
set_option maxRecDepth 100000
set_option maxHeartbeats 4000000
namespace LT
open PySem PySem.Spec PyProof.Rows L2 LX
/-! ### what the top has written -/
structure ClsI (K : PySem.W.Frag) (C : Addr) : Prop where
  cl : Cls K C
  mks : PySem.W.makesIn K C = true
  kc : PySem.W.keepIn K (.ref C) = true
structure RCK (K : PySem.W.Frag) (R C f : Addr) : Prop where
  xc : XC K C f
  st : XSet K C "answer"
  gt : XGet K C "answer"
  sub : PySem.W.mroIn K C (.ref R) = some true
def okE (e : DictEntry) (kv : Int × Int) : Bool := match e.key, e.val with
  | .int k _, .int v _ => k == kv.1 && (v == kv.2 && e.hash == hashInt k)
  | _, _ => false
def okEs : List DictEntry → List (Int × Int) → Bool
  | [], [] => true
  | e :: es, kv :: kvs => okE e kv && okEs es kvs
  | _, _ => false
def numsI : List (Int × Int) := [(1, 5), (2, 4), (3, 7), (4, 8), (5, 9), (6, 9), (7, 13)]
theorem okE_of {P : Program} {w : World} {e : DictEntry} {kv : Int × Int} (h : okE e kv = true) : (mixKind P w).is (.inl kv.1) e.key = true ∧ e.hash = (mixKind P w).hash (.inl kv.1) ∧ RelV (.int kv.2) e.val := by
  obtain ⟨hash, key, val⟩ := e
  unfold okE at h
  dsimp only at h
  split at h
  · rename_i k t v t'
    simp only [Bool.and_eq_true, beq_iff_eq] at h
    obtain ⟨h1, h2, h3⟩ := h
    subst h1 h2 h3
    exact ⟨keyIs_int kv.1 t, rfl, t', rfl⟩
  · cases h
theorem okEs_of {P : Program} {w : World} : ∀ {es : List DictEntry} {l : List (Int × Int)}, okEs es l = true → ∃ vs : List (Key × Value), KV (l.map fun kv => ((Sum.inl kv.1 : Key), V.int kv.2)) vs ∧ Pairs (mixKind P w) es vs ∧ (∀ e ∈ es, ∃ k, (mixKind P w).is k e.key = true ∧ e.hash = (mixKind P w).hash k) ∧ vs.map (·.1) = l.map fun kv => (Sum.inl kv.1 : Key)
  | [], [], _ => ⟨[], .nil, .nil, fun e h => (by cases h), rfl⟩
  | e :: es, kv :: kvs, h => by
    unfold okEs at h
    rw [Bool.and_eq_true] at h
    obtain ⟨vs, a1, a2, a3, a4⟩ := okEs_of (P := P) (w := w) h.2
    obtain ⟨b1, b2, b3⟩ := okE_of (P := P) (w := w) h.1
    refine ⟨(Sum.inl kv.1, e.val) :: vs, .cons ⟨rfl, b3⟩ a1, .cons b1 rfl a2, fun e' he => ?_, by rw [List.map_cons, List.map_cons, a4]⟩
    rcases List.mem_cons.mp he with rfl | he
    · exact ⟨_, b1, b2⟩
    · exact a3 e' he
  | [], _ :: _, h => by cases h
  | _ :: _, [], h => by cases h
theorem dk_nums {K : PySem.W.Frag} {P : Program} {w : World} {D : Addr} (h : ∃ es ep, K.lookup D = some ⟨.type "dict", none, .dict es ep, #[]⟩ ∧ okEs es.toList numsI = true) (hn : (D == sysModules) = false) : DK K P w D nums := by
  obtain ⟨es, ep, hl, hk⟩ := h
  refine ⟨hn, fun hp X => ?_⟩
  obtain ⟨vs, a1, a2, a3, a4⟩ := okEs_of (P := P) (w := w) hk
  refine ⟨vs, a1, _, es, ep, X _ _ hl, ⟨rfl, rfl, rfl⟩, rfl, fun e he => a3 e (by simpa using he), a2, ?_⟩
  rw [a4]
  decide

@[elab_as_elim] theorem ls1 {A : Type} {P : List A → Prop} (f : ∀ a, P [a]) : ∀ us : List A, us.length = 1 → P us
  | [a], _ => f a
@[elab_as_elim] theorem ls2 {A : Type} {P : List A → Prop} (f : ∀ a b, P [a, b]) : ∀ us : List A, us.length = 2 → P us
  | [a, b], _ => f a b
@[elab_as_elim] theorem ls3 {A : Type} {P : List A → Prop} (f : ∀ a b c, P [a, b, c]) : ∀ us : List A, us.length = 3 → P us
  | [a, b, c], _ => f a b c
@[elab_as_elim] theorem ls4 {A : Type} {P : List A → Prop} (f : ∀ a b c d, P [a, b, c, d]) : ∀ us : List A, us.length = 4 → P us
  | [a, b, c, d], _ => f a b c d
@[elab_as_elim] theorem ls5 {A : Type} {P : List A → Prop} (f : ∀ a b c d e, P [a, b, c, d, e]) : ∀ us : List A, us.length = 5 → P us
  | [a, b, c, d, e], _ => f a b c d e
theorem all_mk {P : Program} {w : World} {K : PySem.W.Frag} {h : Heap} {mg : Str → Option Value} {fa : Addr} (X : K.In h) (G : h.Ns mainGlobals mg) (hfa : mg "answers" = some (.ref fa))
    {f_within f_demand_within f_common_divisor f_difference f_last_paid f_scales_of f_certain_parts f_uncertain_parts f_worth f_table_of f_lines_of f_rate_of f_lives_of f_number_of f_premium f_reserve f_paid f_gain f_alive f_mean f_answers CPa f_CPa_init f_CPa_last_time f_CPa_begins_year f_CPa_ends_year f_CPa_in_any_case f_CPa_if_there f_CPa_for_its_end CRa f_CRa_init f_CRa_text CPr f_CPr_init f_CPr_parts f_CPr_parts_in_any_case f_CPr_whole CTa f_CTa_init f_CTa_oldest f_CTa_living CCo f_CCo_init f_CCo_reserve_parts f_CCo_reserve_whole f_CCo_premium_parts f_CCo_due_parts f_CCo_ended_parts CYe f_CYe_init CSt f_CSt_init f_CSt_ways f_CSt_time_gone f_CSt_demand_there CRd f_CRd_init f_CRd_all_read f_CRd_take_number f_CRd_take_numbers CIn f_CIn_init f_CIn_carry_out f_CIn_begin f_CIn_tell f_CIn_fraction f_CIn_contract_fraction XRe f_XRe XTo f_XTo XOu f_XOu XWr f_XWr DN : Addr}
    (a_within : PySem.W.nsIn K mainGlobals "within" = some (some (.ref f_within)))
    (h_within : ∃ fd, Fun K "within" "within" sWithin f_within fd)
    (a_demand_within : PySem.W.nsIn K mainGlobals "demand_within" = some (some (.ref f_demand_within)))
    (h_demand_within : ∃ fd, Fun K "demand_within" "demand_within" sDemand f_demand_within fd)
    (a_common_divisor : PySem.W.nsIn K mainGlobals "common_divisor" = some (some (.ref f_common_divisor)))
    (h_common_divisor : ∃ fd, Fun K "common_divisor" "common_divisor" sGcd f_common_divisor fd)
    (a_difference : PySem.W.nsIn K mainGlobals "difference" = some (some (.ref f_difference)))
    (h_difference : ∃ fd, Fun K "difference" "difference" sDiff f_difference fd)
    (a_last_paid : PySem.W.nsIn K mainGlobals "last_paid" = some (some (.ref f_last_paid)))
    (h_last_paid : ∃ fd, Fun K "last_paid" "last_paid" sLastPaid f_last_paid fd)
    (a_scales_of : PySem.W.nsIn K mainGlobals "scales_of" = some (some (.ref f_scales_of)))
    (h_scales_of : ∃ fd, Fun K "scales_of" "scales_of" sScales f_scales_of fd)
    (a_certain_parts : PySem.W.nsIn K mainGlobals "certain_parts" = some (some (.ref f_certain_parts)))
    (h_certain_parts : ∃ fd, Fun K "certain_parts" "certain_parts" sCert f_certain_parts fd)
    (a_uncertain_parts : PySem.W.nsIn K mainGlobals "uncertain_parts" = some (some (.ref f_uncertain_parts)))
    (h_uncertain_parts : ∃ fd, Fun K "uncertain_parts" "uncertain_parts" sUnc f_uncertain_parts fd)
    (a_worth : PySem.W.nsIn K mainGlobals "worth" = some (some (.ref f_worth)))
    (h_worth : ∃ fd, Fun K "worth" "worth" sWorth f_worth fd)
    (a_table_of : PySem.W.nsIn K mainGlobals "table_of" = some (some (.ref f_table_of)))
    (h_table_of : ∃ fd, Fun K "table_of" "table_of" sTableOf f_table_of fd)
    (a_lines_of : PySem.W.nsIn K mainGlobals "lines_of" = some (some (.ref f_lines_of)))
    (h_lines_of : ∃ fd, Fun K "lines_of" "lines_of" sLines f_lines_of fd)
    (a_rate_of : PySem.W.nsIn K mainGlobals "rate_of" = some (some (.ref f_rate_of)))
    (h_rate_of : ∃ fd, Fun K "rate_of" "rate_of" sRate f_rate_of fd)
    (a_lives_of : PySem.W.nsIn K mainGlobals "lives_of" = some (some (.ref f_lives_of)))
    (h_lives_of : ∃ fd, Fun K "lives_of" "lives_of" sLives f_lives_of fd)
    (a_number_of : PySem.W.nsIn K mainGlobals "number_of" = some (some (.ref f_number_of)))
    (h_number_of : ∃ fd, Fun K "number_of" "number_of" sNumber f_number_of fd)
    (a_premium : PySem.W.nsIn K mainGlobals "premium" = some (some (.ref f_premium)))
    (h_premium : ∃ fd, Fun K "premium" "premium" sPrem f_premium fd)
    (a_reserve : PySem.W.nsIn K mainGlobals "reserve" = some (some (.ref f_reserve)))
    (h_reserve : ∃ fd, Fun K "reserve" "reserve" sReserve f_reserve fd)
    (a_paid : PySem.W.nsIn K mainGlobals "paid" = some (some (.ref f_paid)))
    (h_paid : ∃ fd, Fun K "paid" "paid" sPaid f_paid fd)
    (a_gain : PySem.W.nsIn K mainGlobals "gain" = some (some (.ref f_gain)))
    (h_gain : ∃ fd, Fun K "gain" "gain" sGain f_gain fd)
    (a_alive : PySem.W.nsIn K mainGlobals "alive" = some (some (.ref f_alive)))
    (h_alive : ∃ fd, Fun K "alive" "alive" sAlive f_alive fd)
    (a_mean : PySem.W.nsIn K mainGlobals "mean" = some (some (.ref f_mean)))
    (h_mean : ∃ fd, Fun K "mean" "mean" sMean f_mean fd)
    (a_answers : PySem.W.nsIn K mainGlobals "answers" = some (some (.ref f_answers)))
    (h_answers : ∃ fd, Fun K "answers" "answers" sAnswers f_answers fd)
    (a_CPa : PySem.W.nsIn K mainGlobals "Payment" = some (some (.ref CPa)))
    (c_CPa : ClsI K CPa)
    (n_CPa_kind : PySem.W.findIn K (.ref CPa) "kind" = some none)
    (n_CPa_wait : PySem.W.findIn K (.ref CPa) "wait" = some none)
    (n_CPa_years : PySem.W.findIn K (.ref CPa) "years" = some none)
    (a_CPa_init : PySem.W.findIn K (.ref CPa) "__init__" = some (some (.ref f_CPa_init)))
    (i_CPa_init : PySem.W.isFn K (.ref f_CPa_init) = true)
    (h_CPa_init : ∃ fd, Fun K "__init__" "Payment.__init__" sPayInit f_CPa_init fd)
    (a_CPa_last_time : PySem.W.findIn K (.ref CPa) "last_time" = some (some (.ref f_CPa_last_time)))
    (i_CPa_last_time : PySem.W.isFn K (.ref f_CPa_last_time) = true)
    (h_CPa_last_time : ∃ fd, Fun K "last_time" "Payment.last_time" sLastT f_CPa_last_time fd)
    (a_CPa_begins_year : PySem.W.findIn K (.ref CPa) "begins_year" = some (some (.ref f_CPa_begins_year)))
    (i_CPa_begins_year : PySem.W.isFn K (.ref f_CPa_begins_year) = true)
    (h_CPa_begins_year : ∃ fd, Fun K "begins_year" "Payment.begins_year" sBegins f_CPa_begins_year fd)
    (a_CPa_ends_year : PySem.W.findIn K (.ref CPa) "ends_year" = some (some (.ref f_CPa_ends_year)))
    (i_CPa_ends_year : PySem.W.isFn K (.ref f_CPa_ends_year) = true)
    (h_CPa_ends_year : ∃ fd, Fun K "ends_year" "Payment.ends_year" sEnds f_CPa_ends_year fd)
    (a_CPa_in_any_case : PySem.W.findIn K (.ref CPa) "in_any_case" = some (some (.ref f_CPa_in_any_case)))
    (i_CPa_in_any_case : PySem.W.isFn K (.ref f_CPa_in_any_case) = true)
    (h_CPa_in_any_case : ∃ fd, Fun K "in_any_case" "Payment.in_any_case" sAny f_CPa_in_any_case fd)
    (a_CPa_if_there : PySem.W.findIn K (.ref CPa) "if_there" = some (some (.ref f_CPa_if_there)))
    (i_CPa_if_there : PySem.W.isFn K (.ref f_CPa_if_there) = true)
    (h_CPa_if_there : ∃ fd, Fun K "if_there" "Payment.if_there" sIfT f_CPa_if_there fd)
    (a_CPa_for_its_end : PySem.W.findIn K (.ref CPa) "for_its_end" = some (some (.ref f_CPa_for_its_end)))
    (i_CPa_for_its_end : PySem.W.isFn K (.ref f_CPa_for_its_end) = true)
    (h_CPa_for_its_end : ∃ fd, Fun K "for_its_end" "Payment.for_its_end" sEndP f_CPa_for_its_end fd)
    (a_CRa : PySem.W.nsIn K mainGlobals "Ratio" = some (some (.ref CRa)))
    (c_CRa : ClsI K CRa)
    (n_CRa_top : PySem.W.findIn K (.ref CRa) "top" = some none)
    (n_CRa_bottom : PySem.W.findIn K (.ref CRa) "bottom" = some none)
    (a_CRa_init : PySem.W.findIn K (.ref CRa) "__init__" = some (some (.ref f_CRa_init)))
    (i_CRa_init : PySem.W.isFn K (.ref f_CRa_init) = true)
    (h_CRa_init : ∃ fd, Fun K "__init__" "Ratio.__init__" sRatio f_CRa_init fd)
    (a_CRa_text : PySem.W.findIn K (.ref CRa) "text" = some (some (.ref f_CRa_text)))
    (i_CRa_text : PySem.W.isFn K (.ref f_CRa_text) = true)
    (h_CRa_text : ∃ fd, Fun K "text" "Ratio.text" sText f_CRa_text fd)
    (a_CPr : PySem.W.nsIn K mainGlobals "Prospect" = some (some (.ref CPr)))
    (c_CPr : ClsI K CPr)
    (n_CPr_status : PySem.W.findIn K (.ref CPr) "status" = some none)
    (n_CPr_scales : PySem.W.findIn K (.ref CPr) "scales" = some none)
    (n_CPr_certain : PySem.W.findIn K (.ref CPr) "certain" = some none)
    (n_CPr_uncertain : PySem.W.findIn K (.ref CPr) "uncertain" = some none)
    (a_CPr_init : PySem.W.findIn K (.ref CPr) "__init__" = some (some (.ref f_CPr_init)))
    (i_CPr_init : PySem.W.isFn K (.ref f_CPr_init) = true)
    (h_CPr_init : ∃ fd, Fun K "__init__" "Prospect.__init__" sProInit f_CPr_init fd)
    (a_CPr_parts : PySem.W.findIn K (.ref CPr) "parts" = some (some (.ref f_CPr_parts)))
    (i_CPr_parts : PySem.W.isFn K (.ref f_CPr_parts) = true)
    (h_CPr_parts : ∃ fd, Fun K "parts" "Prospect.parts" sParts f_CPr_parts fd)
    (a_CPr_parts_in_any_case : PySem.W.findIn K (.ref CPr) "parts_in_any_case" = some (some (.ref f_CPr_parts_in_any_case)))
    (i_CPr_parts_in_any_case : PySem.W.isFn K (.ref f_CPr_parts_in_any_case) = true)
    (h_CPr_parts_in_any_case : ∃ fd, Fun K "parts_in_any_case" "Prospect.parts_in_any_case" sPartsAny f_CPr_parts_in_any_case fd)
    (a_CPr_whole : PySem.W.findIn K (.ref CPr) "whole" = some (some (.ref f_CPr_whole)))
    (i_CPr_whole : PySem.W.isFn K (.ref f_CPr_whole) = true)
    (h_CPr_whole : ∃ fd, Fun K "whole" "Prospect.whole" sWhole f_CPr_whole fd)
    (a_CTa : PySem.W.nsIn K mainGlobals "Table" = some (some (.ref CTa)))
    (c_CTa : ClsI K CTa)
    (n_CTa_rate : PySem.W.findIn K (.ref CTa) "rate" = some none)
    (n_CTa_lives : PySem.W.findIn K (.ref CTa) "lives" = some none)
    (a_CTa_init : PySem.W.findIn K (.ref CTa) "__init__" = some (some (.ref f_CTa_init)))
    (i_CTa_init : PySem.W.isFn K (.ref f_CTa_init) = true)
    (h_CTa_init : ∃ fd, Fun K "__init__" "Table.__init__" sTabInit f_CTa_init fd)
    (a_CTa_oldest : PySem.W.findIn K (.ref CTa) "oldest" = some (some (.ref f_CTa_oldest)))
    (i_CTa_oldest : PySem.W.isFn K (.ref f_CTa_oldest) = true)
    (h_CTa_oldest : ∃ fd, Fun K "oldest" "Table.oldest" sOldest f_CTa_oldest fd)
    (a_CTa_living : PySem.W.findIn K (.ref CTa) "living" = some (some (.ref f_CTa_living)))
    (i_CTa_living : PySem.W.isFn K (.ref f_CTa_living) = true)
    (h_CTa_living : ∃ fd, Fun K "living" "Table.living" sLiving f_CTa_living fd)
    (a_CCo : PySem.W.nsIn K mainGlobals "Contract" = some (some (.ref CCo)))
    (c_CCo : ClsI K CCo)
    (n_CCo_status : PySem.W.findIn K (.ref CCo) "status" = some none)
    (n_CCo_payment : PySem.W.findIn K (.ref CCo) "payment" = some none)
    (n_CCo_premium_payment : PySem.W.findIn K (.ref CCo) "premium_payment" = some none)
    (n_CCo_to_pay : PySem.W.findIn K (.ref CCo) "to_pay" = some none)
    (n_CCo_to_get : PySem.W.findIn K (.ref CCo) "to_get" = some none)
    (n_CCo_first_to_pay : PySem.W.findIn K (.ref CCo) "first_to_pay" = some none)
    (n_CCo_first_to_get : PySem.W.findIn K (.ref CCo) "first_to_get" = some none)
    (a_CCo_init : PySem.W.findIn K (.ref CCo) "__init__" = some (some (.ref f_CCo_init)))
    (i_CCo_init : PySem.W.isFn K (.ref f_CCo_init) = true)
    (h_CCo_init : ∃ fd, Fun K "__init__" "Contract.__init__" sConInit f_CCo_init fd)
    (a_CCo_reserve_parts : PySem.W.findIn K (.ref CCo) "reserve_parts" = some (some (.ref f_CCo_reserve_parts)))
    (i_CCo_reserve_parts : PySem.W.isFn K (.ref f_CCo_reserve_parts) = true)
    (h_CCo_reserve_parts : ∃ fd, Fun K "reserve_parts" "Contract.reserve_parts" sRP f_CCo_reserve_parts fd)
    (a_CCo_reserve_whole : PySem.W.findIn K (.ref CCo) "reserve_whole" = some (some (.ref f_CCo_reserve_whole)))
    (i_CCo_reserve_whole : PySem.W.isFn K (.ref f_CCo_reserve_whole) = true)
    (h_CCo_reserve_whole : ∃ fd, Fun K "reserve_whole" "Contract.reserve_whole" sRW f_CCo_reserve_whole fd)
    (a_CCo_premium_parts : PySem.W.findIn K (.ref CCo) "premium_parts" = some (some (.ref f_CCo_premium_parts)))
    (i_CCo_premium_parts : PySem.W.isFn K (.ref f_CCo_premium_parts) = true)
    (h_CCo_premium_parts : ∃ fd, Fun K "premium_parts" "Contract.premium_parts" sPP f_CCo_premium_parts fd)
    (a_CCo_due_parts : PySem.W.findIn K (.ref CCo) "due_parts" = some (some (.ref f_CCo_due_parts)))
    (i_CCo_due_parts : PySem.W.isFn K (.ref f_CCo_due_parts) = true)
    (h_CCo_due_parts : ∃ fd, Fun K "due_parts" "Contract.due_parts" sDP f_CCo_due_parts fd)
    (a_CCo_ended_parts : PySem.W.findIn K (.ref CCo) "ended_parts" = some (some (.ref f_CCo_ended_parts)))
    (i_CCo_ended_parts : PySem.W.isFn K (.ref f_CCo_ended_parts) = true)
    (h_CCo_ended_parts : ∃ fd, Fun K "ended_parts" "Contract.ended_parts" sEP f_CCo_ended_parts fd)
    (a_CYe : PySem.W.nsIn K mainGlobals "Year" = some (some (.ref CYe)))
    (c_CYe : ClsI K CYe)
    (n_CYe_contracts : PySem.W.findIn K (.ref CYe) "contracts" = some none)
    (n_CYe_ended : PySem.W.findIn K (.ref CYe) "ended" = some none)
    (n_CYe_rate_top : PySem.W.findIn K (.ref CYe) "rate_top" = some none)
    (n_CYe_rate_bottom : PySem.W.findIn K (.ref CYe) "rate_bottom" = some none)
    (a_CYe_init : PySem.W.findIn K (.ref CYe) "__init__" = some (some (.ref f_CYe_init)))
    (i_CYe_init : PySem.W.isFn K (.ref f_CYe_init) = true)
    (h_CYe_init : ∃ fd, Fun K "__init__" "Year.__init__" sYearInit f_CYe_init fd)
    (a_CSt : PySem.W.nsIn K mainGlobals "Status" = some (some (.ref CSt)))
    (c_CSt : ClsI K CSt)
    (n_CSt_table : PySem.W.findIn K (.ref CSt) "table" = some none)
    (n_CSt_kind : PySem.W.findIn K (.ref CSt) "kind" = some none)
    (n_CSt_x : PySem.W.findIn K (.ref CSt) "x" = some none)
    (n_CSt_y : PySem.W.findIn K (.ref CSt) "y" = some none)
    (a_CSt_init : PySem.W.findIn K (.ref CSt) "__init__" = some (some (.ref f_CSt_init)))
    (i_CSt_init : PySem.W.isFn K (.ref f_CSt_init) = true)
    (h_CSt_init : ∃ fd, Fun K "__init__" "Status.__init__" sStInit f_CSt_init fd)
    (a_CSt_ways : PySem.W.findIn K (.ref CSt) "ways" = some (some (.ref f_CSt_ways)))
    (i_CSt_ways : PySem.W.isFn K (.ref f_CSt_ways) = true)
    (h_CSt_ways : ∃ fd, Fun K "ways" "Status.ways" sWays f_CSt_ways fd)
    (a_CSt_time_gone : PySem.W.findIn K (.ref CSt) "time_gone" = some (some (.ref f_CSt_time_gone)))
    (i_CSt_time_gone : PySem.W.isFn K (.ref f_CSt_time_gone) = true)
    (h_CSt_time_gone : ∃ fd, Fun K "time_gone" "Status.time_gone" sGone f_CSt_time_gone fd)
    (a_CSt_demand_there : PySem.W.findIn K (.ref CSt) "demand_there" = some (some (.ref f_CSt_demand_there)))
    (i_CSt_demand_there : PySem.W.isFn K (.ref f_CSt_demand_there) = true)
    (h_CSt_demand_there : ∃ fd, Fun K "demand_there" "Status.demand_there" sThere f_CSt_demand_there fd)
    (a_CRd : PySem.W.nsIn K mainGlobals "CallReader" = some (some (.ref CRd)))
    (c_CRd : ClsI K CRd)
    (n_CRd_calls : PySem.W.findIn K (.ref CRd) "calls" = some none)
    (n_CRd_place : PySem.W.findIn K (.ref CRd) "place" = some none)
    (a_CRd_init : PySem.W.findIn K (.ref CRd) "__init__" = some (some (.ref f_CRd_init)))
    (i_CRd_init : PySem.W.isFn K (.ref f_CRd_init) = true)
    (h_CRd_init : ∃ fd, Fun K "__init__" "CallReader.__init__" sRdInit f_CRd_init fd)
    (a_CRd_all_read : PySem.W.findIn K (.ref CRd) "all_read" = some (some (.ref f_CRd_all_read)))
    (i_CRd_all_read : PySem.W.isFn K (.ref f_CRd_all_read) = true)
    (h_CRd_all_read : ∃ fd, Fun K "all_read" "CallReader.all_read" sAllRead f_CRd_all_read fd)
    (a_CRd_take_number : PySem.W.findIn K (.ref CRd) "take_number" = some (some (.ref f_CRd_take_number)))
    (i_CRd_take_number : PySem.W.isFn K (.ref f_CRd_take_number) = true)
    (h_CRd_take_number : ∃ fd, Fun K "take_number" "CallReader.take_number" sTake f_CRd_take_number fd)
    (a_CRd_take_numbers : PySem.W.findIn K (.ref CRd) "take_numbers" = some (some (.ref f_CRd_take_numbers)))
    (i_CRd_take_numbers : PySem.W.isFn K (.ref f_CRd_take_numbers) = true)
    (h_CRd_take_numbers : ∃ fd, Fun K "take_numbers" "CallReader.take_numbers" sTakes f_CRd_take_numbers fd)
    (a_CIn : PySem.W.nsIn K mainGlobals "Insurance" = some (some (.ref CIn)))
    (c_CIn : ClsI K CIn)
    (n_CIn_table : PySem.W.findIn K (.ref CIn) "table" = some none)
    (a_CIn_init : PySem.W.findIn K (.ref CIn) "__init__" = some (some (.ref f_CIn_init)))
    (i_CIn_init : PySem.W.isFn K (.ref f_CIn_init) = true)
    (h_CIn_init : ∃ fd, Fun K "__init__" "Insurance.__init__" sInsInit f_CIn_init fd)
    (a_CIn_carry_out : PySem.W.findIn K (.ref CIn) "carry_out" = some (some (.ref f_CIn_carry_out)))
    (i_CIn_carry_out : PySem.W.isFn K (.ref f_CIn_carry_out) = true)
    (h_CIn_carry_out : ∃ fd, Fun K "carry_out" "Insurance.carry_out" sCarry f_CIn_carry_out fd)
    (a_CIn_begin : PySem.W.findIn K (.ref CIn) "begin" = some (some (.ref f_CIn_begin)))
    (i_CIn_begin : PySem.W.isFn K (.ref f_CIn_begin) = true)
    (h_CIn_begin : ∃ fd, Fun K "begin" "Insurance.begin" sBegin f_CIn_begin fd)
    (a_CIn_tell : PySem.W.findIn K (.ref CIn) "tell" = some (some (.ref f_CIn_tell)))
    (i_CIn_tell : PySem.W.isFn K (.ref f_CIn_tell) = true)
    (h_CIn_tell : ∃ fd, Fun K "tell" "Insurance.tell" sTell f_CIn_tell fd)
    (a_CIn_fraction : PySem.W.findIn K (.ref CIn) "fraction" = some (some (.ref f_CIn_fraction)))
    (i_CIn_fraction : PySem.W.isFn K (.ref f_CIn_fraction) = true)
    (h_CIn_fraction : ∃ fd, Fun K "fraction" "Insurance.fraction" sFrac f_CIn_fraction fd)
    (a_CIn_contract_fraction : PySem.W.findIn K (.ref CIn) "contract_fraction" = some (some (.ref f_CIn_contract_fraction)))
    (i_CIn_contract_fraction : PySem.W.isFn K (.ref f_CIn_contract_fraction) = true)
    (h_CIn_contract_fraction : ∃ fd, Fun K "contract_fraction" "Insurance.contract_fraction" sCF f_CIn_contract_fraction fd)
    (a_XRe : PySem.W.nsIn K mainGlobals "Refusal" = some (some (.ref XRe)))
    (u_XRe : PySem.W.findIn K (.ref XRe) "__init__" = some (some (.ref f_XRe)))
    (h_XRe : ∃ fd, Fun K "__init__" "Refusal.__init__" sRef f_XRe fd)
    (r_XRe : xclsIn K XRe = true)
    (m_XRe : CM K XRe f_XRe "__init__")
    (a_XTo : PySem.W.nsIn K mainGlobals "TooLong" = some (some (.ref XTo)))
    (u_XTo : PySem.W.findIn K (.ref XTo) "__init__" = some (some (.ref f_XTo)))
    (h_XTo : ∃ fd, Fun K "__init__" "TooLong.__init__" sTooLong f_XTo fd)
    (r_XTo : RCK K XRe XTo f_XTo)
    (a_XOu : PySem.W.nsIn K mainGlobals "OutOfRange" = some (some (.ref XOu)))
    (u_XOu : PySem.W.findIn K (.ref XOu) "__init__" = some (some (.ref f_XOu)))
    (h_XOu : ∃ fd, Fun K "__init__" "OutOfRange.__init__" sOut f_XOu fd)
    (r_XOu : RCK K XRe XOu f_XOu)
    (a_XWr : PySem.W.nsIn K mainGlobals "WrongLine" = some (some (.ref XWr)))
    (u_XWr : PySem.W.findIn K (.ref XWr) "__init__" = some (some (.ref f_XWr)))
    (h_XWr : ∃ fd, Fun K "__init__" "WrongLine.__init__" sWrong f_XWr fd)
    (r_XWr : RCK K XRe XWr f_XWr)
    (v_EACH_BEGINNING : ∃ t, PySem.W.nsIn K mainGlobals "EACH_BEGINNING" = some (some (.int 0 t)))
    (v_EACH_END : ∃ t, PySem.W.nsIn K mainGlobals "EACH_END" = some (some (.int 1 t)))
    (v_AFTER_ALL_YEARS : ∃ t, PySem.W.nsIn K mainGlobals "AFTER_ALL_YEARS" = some (some (.int 2 t)))
    (v_FOR_ITS_END : ∃ t, PySem.W.nsIn K mainGlobals "FOR_ITS_END" = some (some (.int 3 t)))
    (v_AFTER_ALL_YEARS_OR_FOR_ITS_END : ∃ t, PySem.W.nsIn K mainGlobals "AFTER_ALL_YEARS_OR_FOR_ITS_END" = some (some (.int 4 t)))
    (v_RISING_FOR_ITS_END : ∃ t, PySem.W.nsIn K mainGlobals "RISING_FOR_ITS_END" = some (some (.int 5 t)))
    (v_IN_ANY_CASE : ∃ t, PySem.W.nsIn K mainGlobals "IN_ANY_CASE" = some (some (.int 6 t)))
    (v_MOST_YEARS : ∃ t, PySem.W.nsIn K mainGlobals "MOST_YEARS" = some (some (.int 120 t)))
    (v_TIMES : ∃ t, PySem.W.nsIn K mainGlobals "TIMES" = some (some (.int 242 t)))
    (v_MOST_AGES : ∃ t, PySem.W.nsIn K mainGlobals "MOST_AGES" = some (some (.int 120 t)))
    (v_MOST_LIVES : ∃ t, PySem.W.nsIn K mainGlobals "MOST_LIVES" = some (some (.int 1000000 t)))
    (v_GREATEST_PART : ∃ t, PySem.W.nsIn K mainGlobals "GREATEST_PART" = some (some (.int 1000 t)))
    (v_NEWLINE : ∃ t, PySem.W.nsIn K mainGlobals "NEWLINE" = some (some (.int 10 t)))
    (v_SLASH : ∃ t, PySem.W.nsIn K mainGlobals "SLASH" = some (some (.int 47 t)))
    (v_DIGIT_ZERO : ∃ t, PySem.W.nsIn K mainGlobals "DIGIT_ZERO" = some (some (.int 48 t)))
    (v_DIGIT_NINE : ∃ t, PySem.W.nsIn K mainGlobals "DIGIT_NINE" = some (some (.int 57 t)))
    (v_MOST_CONTRACTS : ∃ t, PySem.W.nsIn K mainGlobals "MOST_CONTRACTS" = some (some (.int 1000000 t)))
    (v_ONE_LIFE : ∃ t, PySem.W.nsIn K mainGlobals "ONE_LIFE" = some (some (.int 0 t)))
    (v_TILL_FIRST_DIES : ∃ t, PySem.W.nsIn K mainGlobals "TILL_FIRST_DIES" = some (some (.int 1 t)))
    (v_TILL_LAST_DIES : ∃ t, PySem.W.nsIn K mainGlobals "TILL_LAST_DIES" = some (some (.int 2 t)))
    (v_LONGEST_TIME : ∃ t, PySem.W.nsIn K mainGlobals "LONGEST_TIME" = some (some (.int 240 t)))
    (v_BEGIN : ∃ t, PySem.W.nsIn K mainGlobals "BEGIN" = some (some (.int 0 t)))
    (v_ALIVE : ∃ t, PySem.W.nsIn K mainGlobals "ALIVE" = some (some (.int 1 t)))
    (v_MEAN : ∃ t, PySem.W.nsIn K mainGlobals "MEAN" = some (some (.int 2 t)))
    (v_WORTH : ∃ t, PySem.W.nsIn K mainGlobals "WORTH" = some (some (.int 3 t)))
    (v_PREMIUM : ∃ t, PySem.W.nsIn K mainGlobals "PREMIUM" = some (some (.int 4 t)))
    (v_RESERVE : ∃ t, PySem.W.nsIn K mainGlobals "RESERVE" = some (some (.int 5 t)))
    (v_PAID : ∃ t, PySem.W.nsIn K mainGlobals "PAID" = some (some (.int 6 t)))
    (v_LONGEST_TEXT : ∃ t, PySem.W.nsIn K mainGlobals "LONGEST_TEXT" = some (some (.int 4096 t)))
    (v_LONGEST_ANSWER : ∃ t, PySem.W.nsIn K mainGlobals "LONGEST_ANSWER" = some (some (.int 4096 t)))
    (z_len : PySem.W.nsIn K mainGlobals "len" = some none)
    (z_max : PySem.W.nsIn K mainGlobals "max" = some none)
    (z_min : PySem.W.nsIn K mainGlobals "min" = some none)
    (z_range : PySem.W.nsIn K mainGlobals "range" = some none)
    (z_sum : PySem.W.nsIn K mainGlobals "sum" = some none)
    (z_abs : PySem.W.nsIn K mainGlobals "abs" = some none)
    (z_str : PySem.W.nsIn K mainGlobals "str" = some none)
    (z_enumerate : PySem.W.nsIn K mainGlobals "enumerate" = some none)
    (z_ord : PySem.W.nsIn K mainGlobals "ord" = some none)
    (z_Exception : PySem.W.nsIn K mainGlobals "Exception" = some none)
    (a_NUMBERS : PySem.W.nsIn K mainGlobals "NUMBERS" = some (some (.ref DN)))
    (d_NUMBERS : ∃ es ep, K.lookup DN = some ⟨.type "dict", none, .dict es ep, #[]⟩ ∧ okEs es.toList numsI = true)
    (e_NUMBERS : (DN == sysModules) = false)
    (s_digits : PySem.W.nsIn K cStatics "sys.int_max_str_digits" = some none)
    (w_r : CRa ≠ CCo)
    (w_t : CTa ≠ CCo)
    (w_s : CSt ≠ CCo)
    (w_p : CPa ≠ CCo)
    (w_q : CPr ≠ CCo)
    : ∃ fd : FuncData, (∀ (s : Shared) (us : List Value), us.length = (["calls"] : List Str).length → BindsTo s fd ⟨us, []⟩ ((["calls"] : List Str).zip us)) ∧ ∀ base : Heap, K.In base → base.Ns mainGlobals mg → FnOk P w K mg base CX0 12 fa fd ["calls"] (spAnswers K) := by
  have e := hfa.symm.trans (PySem.W.mg_of X G a_answers)
  cases e
  obtain ⟨d_within, F_within⟩ := h_within
  have b_within := F_within.binds (ps := psD) fun _ _ _ _ _ _ us hl => ls3 (fun _ _ _ => rfl) us hl
  have g_within := PySem.W.mg_of X G a_within
  obtain ⟨d_demand_within, F_demand_within⟩ := h_demand_within
  have b_demand_within := F_demand_within.binds (ps := psD) fun _ _ _ _ _ _ us hl => ls3 (fun _ _ _ => rfl) us hl
  have g_demand_within := PySem.W.mg_of X G a_demand_within
  obtain ⟨d_common_divisor, F_common_divisor⟩ := h_common_divisor
  have b_common_divisor := F_common_divisor.binds (ps := ["first", "second"]) fun _ _ _ _ _ _ us hl => ls2 (fun _ _ => rfl) us hl
  have g_common_divisor := PySem.W.mg_of X G a_common_divisor
  obtain ⟨d_difference, F_difference⟩ := h_difference
  have b_difference := F_difference.binds (ps := psF) fun _ _ _ _ _ _ us hl => ls4 (fun _ _ _ _ => rfl) us hl
  have g_difference := PySem.W.mg_of X G a_difference
  obtain ⟨d_last_paid, F_last_paid⟩ := h_last_paid
  have b_last_paid := F_last_paid.binds (ps := ["status", "payment"]) fun _ _ _ _ _ _ us hl => ls2 (fun _ _ => rfl) us hl
  have g_last_paid := PySem.W.mg_of X G a_last_paid
  obtain ⟨d_scales_of, F_scales_of⟩ := h_scales_of
  have b_scales_of := F_scales_of.binds (ps := ["rate", "last"]) fun _ _ _ _ _ _ us hl => ls2 (fun _ _ => rfl) us hl
  have g_scales_of := PySem.W.mg_of X G a_scales_of
  obtain ⟨d_certain_parts, F_certain_parts⟩ := h_certain_parts
  have b_certain_parts := F_certain_parts.binds (ps := psC) fun _ _ _ _ _ _ us hl => ls4 (fun _ _ _ _ => rfl) us hl
  have g_certain_parts := PySem.W.mg_of X G a_certain_parts
  obtain ⟨d_uncertain_parts, F_uncertain_parts⟩ := h_uncertain_parts
  have b_uncertain_parts := F_uncertain_parts.binds (ps := psU) fun _ _ _ _ _ _ us hl => ls4 (fun _ _ _ _ => rfl) us hl
  have g_uncertain_parts := PySem.W.mg_of X G a_uncertain_parts
  obtain ⟨d_worth, F_worth⟩ := h_worth
  have b_worth := F_worth.binds (ps := ["status", "payment"]) fun _ _ _ _ _ _ us hl => ls2 (fun _ _ => rfl) us hl
  have g_worth := PySem.W.mg_of X G a_worth
  obtain ⟨d_table_of, F_table_of⟩ := h_table_of
  have b_table_of := F_table_of.binds (ps := ["text"]) fun _ _ _ _ _ _ us hl => ls1 (fun _ => rfl) us hl
  have g_table_of := PySem.W.mg_of X G a_table_of
  obtain ⟨d_lines_of, F_lines_of⟩ := h_lines_of
  have b_lines_of := F_lines_of.binds (ps := ["text"]) fun _ _ _ _ _ _ us hl => ls1 (fun _ => rfl) us hl
  have g_lines_of := PySem.W.mg_of X G a_lines_of
  obtain ⟨d_rate_of, F_rate_of⟩ := h_rate_of
  have b_rate_of := F_rate_of.binds (ps := ["line"]) fun _ _ _ _ _ _ us hl => ls1 (fun _ => rfl) us hl
  have g_rate_of := PySem.W.mg_of X G a_rate_of
  obtain ⟨d_lives_of, F_lives_of⟩ := h_lives_of
  have b_lives_of := F_lives_of.binds (ps := ["lines"]) fun _ _ _ _ _ _ us hl => ls1 (fun _ => rfl) us hl
  have g_lives_of := PySem.W.mg_of X G a_lives_of
  obtain ⟨d_number_of, F_number_of⟩ := h_number_of
  have b_number_of := F_number_of.binds (ps := ["digits", "least", "greatest"]) fun _ _ _ _ _ _ us hl => ls3 (fun _ _ _ => rfl) us hl
  have g_number_of := PySem.W.mg_of X G a_number_of
  obtain ⟨d_premium, F_premium⟩ := h_premium
  have b_premium := F_premium.binds (ps := ["contract"]) fun _ _ _ _ _ _ us hl => ls1 (fun _ => rfl) us hl
  have g_premium := PySem.W.mg_of X G a_premium
  obtain ⟨d_reserve, F_reserve⟩ := h_reserve
  have b_reserve := F_reserve.binds (ps := ["contract", "when"]) fun _ _ _ _ _ _ us hl => ls2 (fun _ _ => rfl) us hl
  have g_reserve := PySem.W.mg_of X G a_reserve
  obtain ⟨d_paid, F_paid⟩ := h_paid
  have b_paid := F_paid.binds (ps := ["contract", "when"]) fun _ _ _ _ _ _ us hl => ls2 (fun _ _ => rfl) us hl
  have g_paid := PySem.W.mg_of X G a_paid
  obtain ⟨d_gain, F_gain⟩ := h_gain
  have b_gain := F_gain.binds (ps := psG) fun _ _ _ _ _ _ us hl => ls3 (fun _ _ _ => rfl) us hl
  have g_gain := PySem.W.mg_of X G a_gain
  obtain ⟨d_alive, F_alive⟩ := h_alive
  have b_alive := F_alive.binds (ps := ["status", "when"]) fun _ _ _ _ _ _ us hl => ls2 (fun _ _ => rfl) us hl
  have g_alive := PySem.W.mg_of X G a_alive
  obtain ⟨d_mean, F_mean⟩ := h_mean
  have b_mean := F_mean.binds (ps := ["status"]) fun _ _ _ _ _ _ us hl => ls1 (fun _ => rfl) us hl
  have g_mean := PySem.W.mg_of X G a_mean
  obtain ⟨d_answers, F_answers⟩ := h_answers
  have b_answers := F_answers.binds (ps := ["calls"]) fun _ _ _ _ _ _ us hl => ls1 (fun _ => rfl) us hl
  have g_CPa := PySem.W.mg_of X G a_CPa
  obtain ⟨d_CPa_init, F_CPa_init⟩ := h_CPa_init
  have b_CPa_init := F_CPa_init.binds (ps := ["self", "kind", "wait", "years"]) fun _ _ _ _ _ _ us hl => ls4 (fun _ _ _ _ => rfl) us hl
  have m_CPa_init : Mk K CPa f_CPa_init := ⟨c_CPa.mks, a_CPa_init, i_CPa_init, c_CPa.kc⟩
  obtain ⟨d_CPa_last_time, F_CPa_last_time⟩ := h_CPa_last_time
  have b_CPa_last_time := F_CPa_last_time.binds (ps := ["self"]) fun _ _ _ _ _ _ us hl => ls1 (fun _ => rfl) us hl
  have m_CPa_last_time : Meth K CPa "last_time" f_CPa_last_time := ⟨a_CPa_last_time, i_CPa_last_time, F_CPa_last_time.kp⟩
  obtain ⟨d_CPa_begins_year, F_CPa_begins_year⟩ := h_CPa_begins_year
  have b_CPa_begins_year := F_CPa_begins_year.binds (ps := psW) fun _ _ _ _ _ _ us hl => ls2 (fun _ _ => rfl) us hl
  have m_CPa_begins_year : Meth K CPa "begins_year" f_CPa_begins_year := ⟨a_CPa_begins_year, i_CPa_begins_year, F_CPa_begins_year.kp⟩
  obtain ⟨d_CPa_ends_year, F_CPa_ends_year⟩ := h_CPa_ends_year
  have b_CPa_ends_year := F_CPa_ends_year.binds (ps := psW) fun _ _ _ _ _ _ us hl => ls2 (fun _ _ => rfl) us hl
  have m_CPa_ends_year : Meth K CPa "ends_year" f_CPa_ends_year := ⟨a_CPa_ends_year, i_CPa_ends_year, F_CPa_ends_year.kp⟩
  obtain ⟨d_CPa_in_any_case, F_CPa_in_any_case⟩ := h_CPa_in_any_case
  have b_CPa_in_any_case := F_CPa_in_any_case.binds (ps := psW) fun _ _ _ _ _ _ us hl => ls2 (fun _ _ => rfl) us hl
  have m_CPa_in_any_case : Meth K CPa "in_any_case" f_CPa_in_any_case := ⟨a_CPa_in_any_case, i_CPa_in_any_case, F_CPa_in_any_case.kp⟩
  obtain ⟨d_CPa_if_there, F_CPa_if_there⟩ := h_CPa_if_there
  have b_CPa_if_there := F_CPa_if_there.binds (ps := psW) fun _ _ _ _ _ _ us hl => ls2 (fun _ _ => rfl) us hl
  have m_CPa_if_there : Meth K CPa "if_there" f_CPa_if_there := ⟨a_CPa_if_there, i_CPa_if_there, F_CPa_if_there.kp⟩
  obtain ⟨d_CPa_for_its_end, F_CPa_for_its_end⟩ := h_CPa_for_its_end
  have b_CPa_for_its_end := F_CPa_for_its_end.binds (ps := psW) fun _ _ _ _ _ _ us hl => ls2 (fun _ _ => rfl) us hl
  have m_CPa_for_its_end : Meth K CPa "for_its_end" f_CPa_for_its_end := ⟨a_CPa_for_its_end, i_CPa_for_its_end, F_CPa_for_its_end.kp⟩
  have g_CRa := PySem.W.mg_of X G a_CRa
  obtain ⟨d_CRa_init, F_CRa_init⟩ := h_CRa_init
  have b_CRa_init := F_CRa_init.binds (ps := psR) fun _ _ _ _ _ _ us hl => ls3 (fun _ _ _ => rfl) us hl
  have m_CRa_init : Mk K CRa f_CRa_init := ⟨c_CRa.mks, a_CRa_init, i_CRa_init, c_CRa.kc⟩
  obtain ⟨d_CRa_text, F_CRa_text⟩ := h_CRa_text
  have b_CRa_text := F_CRa_text.binds (ps := ["self"]) fun _ _ _ _ _ _ us hl => ls1 (fun _ => rfl) us hl
  have m_CRa_text : Meth K CRa "text" f_CRa_text := ⟨a_CRa_text, i_CRa_text, F_CRa_text.kp⟩
  have g_CPr := PySem.W.mg_of X G a_CPr
  obtain ⟨d_CPr_init, F_CPr_init⟩ := h_CPr_init
  have b_CPr_init := F_CPr_init.binds (ps := psQ) fun _ _ _ _ _ _ us hl => ls4 (fun _ _ _ _ => rfl) us hl
  have m_CPr_init : Mk K CPr f_CPr_init := ⟨c_CPr.mks, a_CPr_init, i_CPr_init, c_CPr.kc⟩
  obtain ⟨d_CPr_parts, F_CPr_parts⟩ := h_CPr_parts
  have b_CPr_parts := F_CPr_parts.binds (ps := psW) fun _ _ _ _ _ _ us hl => ls2 (fun _ _ => rfl) us hl
  have m_CPr_parts : Meth K CPr "parts" f_CPr_parts := ⟨a_CPr_parts, i_CPr_parts, F_CPr_parts.kp⟩
  obtain ⟨d_CPr_parts_in_any_case, F_CPr_parts_in_any_case⟩ := h_CPr_parts_in_any_case
  have b_CPr_parts_in_any_case := F_CPr_parts_in_any_case.binds (ps := psW) fun _ _ _ _ _ _ us hl => ls2 (fun _ _ => rfl) us hl
  have m_CPr_parts_in_any_case : Meth K CPr "parts_in_any_case" f_CPr_parts_in_any_case := ⟨a_CPr_parts_in_any_case, i_CPr_parts_in_any_case, F_CPr_parts_in_any_case.kp⟩
  obtain ⟨d_CPr_whole, F_CPr_whole⟩ := h_CPr_whole
  have b_CPr_whole := F_CPr_whole.binds (ps := psW) fun _ _ _ _ _ _ us hl => ls2 (fun _ _ => rfl) us hl
  have m_CPr_whole : Meth K CPr "whole" f_CPr_whole := ⟨a_CPr_whole, i_CPr_whole, F_CPr_whole.kp⟩
  have g_CTa := PySem.W.mg_of X G a_CTa
  obtain ⟨d_CTa_init, F_CTa_init⟩ := h_CTa_init
  have b_CTa_init := F_CTa_init.binds (ps := ["self", "rate", "lives"]) fun _ _ _ _ _ _ us hl => ls3 (fun _ _ _ => rfl) us hl
  have m_CTa_init : Mk K CTa f_CTa_init := ⟨c_CTa.mks, a_CTa_init, i_CTa_init, c_CTa.kc⟩
  obtain ⟨d_CTa_oldest, F_CTa_oldest⟩ := h_CTa_oldest
  have b_CTa_oldest := F_CTa_oldest.binds (ps := ["self"]) fun _ _ _ _ _ _ us hl => ls1 (fun _ => rfl) us hl
  have m_CTa_oldest : Meth K CTa "oldest" f_CTa_oldest := ⟨a_CTa_oldest, i_CTa_oldest, F_CTa_oldest.kp⟩
  obtain ⟨d_CTa_living, F_CTa_living⟩ := h_CTa_living
  have b_CTa_living := F_CTa_living.binds (ps := ["self", "age"]) fun _ _ _ _ _ _ us hl => ls2 (fun _ _ => rfl) us hl
  have m_CTa_living : Meth K CTa "living" f_CTa_living := ⟨a_CTa_living, i_CTa_living, F_CTa_living.kp⟩
  have g_CCo := PySem.W.mg_of X G a_CCo
  obtain ⟨d_CCo_init, F_CCo_init⟩ := h_CCo_init
  have b_CCo_init := F_CCo_init.binds (ps := psK) fun _ _ _ _ _ _ us hl => ls4 (fun _ _ _ _ => rfl) us hl
  have m_CCo_init : Mk K CCo f_CCo_init := ⟨c_CCo.mks, a_CCo_init, i_CCo_init, c_CCo.kc⟩
  obtain ⟨d_CCo_reserve_parts, F_CCo_reserve_parts⟩ := h_CCo_reserve_parts
  have b_CCo_reserve_parts := F_CCo_reserve_parts.binds (ps := psW) fun _ _ _ _ _ _ us hl => ls2 (fun _ _ => rfl) us hl
  have m_CCo_reserve_parts : Meth K CCo "reserve_parts" f_CCo_reserve_parts := ⟨a_CCo_reserve_parts, i_CCo_reserve_parts, F_CCo_reserve_parts.kp⟩
  obtain ⟨d_CCo_reserve_whole, F_CCo_reserve_whole⟩ := h_CCo_reserve_whole
  have b_CCo_reserve_whole := F_CCo_reserve_whole.binds (ps := psW) fun _ _ _ _ _ _ us hl => ls2 (fun _ _ => rfl) us hl
  have m_CCo_reserve_whole : Meth K CCo "reserve_whole" f_CCo_reserve_whole := ⟨a_CCo_reserve_whole, i_CCo_reserve_whole, F_CCo_reserve_whole.kp⟩
  obtain ⟨d_CCo_premium_parts, F_CCo_premium_parts⟩ := h_CCo_premium_parts
  have b_CCo_premium_parts := F_CCo_premium_parts.binds (ps := psW) fun _ _ _ _ _ _ us hl => ls2 (fun _ _ => rfl) us hl
  have m_CCo_premium_parts : Meth K CCo "premium_parts" f_CCo_premium_parts := ⟨a_CCo_premium_parts, i_CCo_premium_parts, F_CCo_premium_parts.kp⟩
  obtain ⟨d_CCo_due_parts, F_CCo_due_parts⟩ := h_CCo_due_parts
  have b_CCo_due_parts := F_CCo_due_parts.binds (ps := psW) fun _ _ _ _ _ _ us hl => ls2 (fun _ _ => rfl) us hl
  have m_CCo_due_parts : Meth K CCo "due_parts" f_CCo_due_parts := ⟨a_CCo_due_parts, i_CCo_due_parts, F_CCo_due_parts.kp⟩
  obtain ⟨d_CCo_ended_parts, F_CCo_ended_parts⟩ := h_CCo_ended_parts
  have b_CCo_ended_parts := F_CCo_ended_parts.binds (ps := psW) fun _ _ _ _ _ _ us hl => ls2 (fun _ _ => rfl) us hl
  have m_CCo_ended_parts : Meth K CCo "ended_parts" f_CCo_ended_parts := ⟨a_CCo_ended_parts, i_CCo_ended_parts, F_CCo_ended_parts.kp⟩
  have g_CYe := PySem.W.mg_of X G a_CYe
  obtain ⟨d_CYe_init, F_CYe_init⟩ := h_CYe_init
  have b_CYe_init := F_CYe_init.binds (ps := psY) fun _ _ _ _ _ _ us hl => ls5 (fun _ _ _ _ _ => rfl) us hl
  have m_CYe_init : Mk K CYe f_CYe_init := ⟨c_CYe.mks, a_CYe_init, i_CYe_init, c_CYe.kc⟩
  have g_CSt := PySem.W.mg_of X G a_CSt
  obtain ⟨d_CSt_init, F_CSt_init⟩ := h_CSt_init
  have b_CSt_init := F_CSt_init.binds (ps := ["self", "table", "kind", "x", "y"]) fun _ _ _ _ _ _ us hl => ls5 (fun _ _ _ _ _ => rfl) us hl
  have m_CSt_init : Mk K CSt f_CSt_init := ⟨c_CSt.mks, a_CSt_init, i_CSt_init, c_CSt.kc⟩
  obtain ⟨d_CSt_ways, F_CSt_ways⟩ := h_CSt_ways
  have b_CSt_ways := F_CSt_ways.binds (ps := psW) fun _ _ _ _ _ _ us hl => ls2 (fun _ _ => rfl) us hl
  have m_CSt_ways : Meth K CSt "ways" f_CSt_ways := ⟨a_CSt_ways, i_CSt_ways, F_CSt_ways.kp⟩
  obtain ⟨d_CSt_time_gone, F_CSt_time_gone⟩ := h_CSt_time_gone
  have b_CSt_time_gone := F_CSt_time_gone.binds (ps := ["self"]) fun _ _ _ _ _ _ us hl => ls1 (fun _ => rfl) us hl
  have m_CSt_time_gone : Meth K CSt "time_gone" f_CSt_time_gone := ⟨a_CSt_time_gone, i_CSt_time_gone, F_CSt_time_gone.kp⟩
  obtain ⟨d_CSt_demand_there, F_CSt_demand_there⟩ := h_CSt_demand_there
  have b_CSt_demand_there := F_CSt_demand_there.binds (ps := psW) fun _ _ _ _ _ _ us hl => ls2 (fun _ _ => rfl) us hl
  have m_CSt_demand_there : Meth K CSt "demand_there" f_CSt_demand_there := ⟨a_CSt_demand_there, i_CSt_demand_there, F_CSt_demand_there.kp⟩
  have g_CRd := PySem.W.mg_of X G a_CRd
  obtain ⟨d_CRd_init, F_CRd_init⟩ := h_CRd_init
  have b_CRd_init := F_CRd_init.binds (ps := ["self", "calls"]) fun _ _ _ _ _ _ us hl => ls2 (fun _ _ => rfl) us hl
  have m_CRd_init : Mk K CRd f_CRd_init := ⟨c_CRd.mks, a_CRd_init, i_CRd_init, c_CRd.kc⟩
  obtain ⟨d_CRd_all_read, F_CRd_all_read⟩ := h_CRd_all_read
  have b_CRd_all_read := F_CRd_all_read.binds (ps := ["self"]) fun _ _ _ _ _ _ us hl => ls1 (fun _ => rfl) us hl
  have m_CRd_all_read : Meth K CRd "all_read" f_CRd_all_read := ⟨a_CRd_all_read, i_CRd_all_read, F_CRd_all_read.kp⟩
  obtain ⟨d_CRd_take_number, F_CRd_take_number⟩ := h_CRd_take_number
  have b_CRd_take_number := F_CRd_take_number.binds (ps := ["self"]) fun _ _ _ _ _ _ us hl => ls1 (fun _ => rfl) us hl
  have m_CRd_take_number : Meth K CRd "take_number" f_CRd_take_number := ⟨a_CRd_take_number, i_CRd_take_number, F_CRd_take_number.kp⟩
  obtain ⟨d_CRd_take_numbers, F_CRd_take_numbers⟩ := h_CRd_take_numbers
  have b_CRd_take_numbers := F_CRd_take_numbers.binds (ps := ["self", "count"]) fun _ _ _ _ _ _ us hl => ls2 (fun _ _ => rfl) us hl
  have m_CRd_take_numbers : Meth K CRd "take_numbers" f_CRd_take_numbers := ⟨a_CRd_take_numbers, i_CRd_take_numbers, F_CRd_take_numbers.kp⟩
  have g_CIn := PySem.W.mg_of X G a_CIn
  obtain ⟨d_CIn_init, F_CIn_init⟩ := h_CIn_init
  have b_CIn_init := F_CIn_init.binds (ps := ["self"]) fun _ _ _ _ _ _ us hl => ls1 (fun _ => rfl) us hl
  have m_CIn_init : Mk K CIn f_CIn_init := ⟨c_CIn.mks, a_CIn_init, i_CIn_init, c_CIn.kc⟩
  obtain ⟨d_CIn_carry_out, F_CIn_carry_out⟩ := h_CIn_carry_out
  have b_CIn_carry_out := F_CIn_carry_out.binds (ps := ["self", "reader"]) fun _ _ _ _ _ _ us hl => ls2 (fun _ _ => rfl) us hl
  have m_CIn_carry_out : Meth K CIn "carry_out" f_CIn_carry_out := ⟨a_CIn_carry_out, i_CIn_carry_out, F_CIn_carry_out.kp⟩
  obtain ⟨d_CIn_begin, F_CIn_begin⟩ := h_CIn_begin
  have b_CIn_begin := F_CIn_begin.binds (ps := ["self", "reader"]) fun _ _ _ _ _ _ us hl => ls2 (fun _ _ => rfl) us hl
  have m_CIn_begin : Meth K CIn "begin" f_CIn_begin := ⟨a_CIn_begin, i_CIn_begin, F_CIn_begin.kp⟩
  obtain ⟨d_CIn_tell, F_CIn_tell⟩ := h_CIn_tell
  have b_CIn_tell := F_CIn_tell.binds (ps := ["self", "call", "reader"]) fun _ _ _ _ _ _ us hl => ls3 (fun _ _ _ => rfl) us hl
  have m_CIn_tell : Meth K CIn "tell" f_CIn_tell := ⟨a_CIn_tell, i_CIn_tell, F_CIn_tell.kp⟩
  obtain ⟨d_CIn_fraction, F_CIn_fraction⟩ := h_CIn_fraction
  have b_CIn_fraction := F_CIn_fraction.binds (ps := psFr) fun _ _ _ _ _ _ us hl => ls3 (fun _ _ _ => rfl) us hl
  have m_CIn_fraction : Meth K CIn "fraction" f_CIn_fraction := ⟨a_CIn_fraction, i_CIn_fraction, F_CIn_fraction.kp⟩
  obtain ⟨d_CIn_contract_fraction, F_CIn_contract_fraction⟩ := h_CIn_contract_fraction
  have b_CIn_contract_fraction := F_CIn_contract_fraction.binds (ps := psCF) fun _ _ _ _ _ _ us hl => ls4 (fun _ _ _ _ => rfl) us hl
  have m_CIn_contract_fraction : Meth K CIn "contract_fraction" f_CIn_contract_fraction := ⟨a_CIn_contract_fraction, i_CIn_contract_fraction, F_CIn_contract_fraction.kp⟩
  have g_XRe := PySem.W.mg_of X G a_XRe
  obtain ⟨d_XRe, F_XRe⟩ := h_XRe
  have b_XRe := F_XRe.binds (ps := ["self", "answer"]) fun _ _ _ _ _ _ us hl => ls2 (fun _ _ => rfl) us hl
  have g_XTo := PySem.W.mg_of X G a_XTo
  obtain ⟨d_XTo, F_XTo⟩ := h_XTo
  have b_XTo := F_XTo.binds (ps := ["self"]) fun _ _ _ _ _ _ us hl => ls1 (fun _ => rfl) us hl
  have O_XTo : RC K mg XRe XTo f_XTo "TooLong" := ⟨r_XTo.xc, r_XTo.st, r_XTo.gt, r_XTo.sub, g_XTo⟩
  have g_XOu := PySem.W.mg_of X G a_XOu
  obtain ⟨d_XOu, F_XOu⟩ := h_XOu
  have b_XOu := F_XOu.binds (ps := ["self"]) fun _ _ _ _ _ _ us hl => ls1 (fun _ => rfl) us hl
  have O_XOu : RC K mg XRe XOu f_XOu "OutOfRange" := ⟨r_XOu.xc, r_XOu.st, r_XOu.gt, r_XOu.sub, g_XOu⟩
  have g_XWr := PySem.W.mg_of X G a_XWr
  obtain ⟨d_XWr, F_XWr⟩ := h_XWr
  have b_XWr := F_XWr.binds (ps := ["self", "line"]) fun _ _ _ _ _ _ us hl => ls2 (fun _ _ => rfl) us hl
  have O_XWr : RC K mg XRe XWr f_XWr "WrongLine" := ⟨r_XWr.xc, r_XWr.st, r_XWr.gt, r_XWr.sub, g_XWr⟩
  have q_EACH_BEGINNING : ∃ t, mg "EACH_BEGINNING" = some (.int 0 t) := v_EACH_BEGINNING.imp fun _ e => PySem.W.mg_of X G e
  have q_EACH_END : ∃ t, mg "EACH_END" = some (.int 1 t) := v_EACH_END.imp fun _ e => PySem.W.mg_of X G e
  have q_AFTER_ALL_YEARS : ∃ t, mg "AFTER_ALL_YEARS" = some (.int 2 t) := v_AFTER_ALL_YEARS.imp fun _ e => PySem.W.mg_of X G e
  have q_FOR_ITS_END : ∃ t, mg "FOR_ITS_END" = some (.int 3 t) := v_FOR_ITS_END.imp fun _ e => PySem.W.mg_of X G e
  have q_AFTER_ALL_YEARS_OR_FOR_ITS_END : ∃ t, mg "AFTER_ALL_YEARS_OR_FOR_ITS_END" = some (.int 4 t) := v_AFTER_ALL_YEARS_OR_FOR_ITS_END.imp fun _ e => PySem.W.mg_of X G e
  have q_RISING_FOR_ITS_END : ∃ t, mg "RISING_FOR_ITS_END" = some (.int 5 t) := v_RISING_FOR_ITS_END.imp fun _ e => PySem.W.mg_of X G e
  have q_IN_ANY_CASE : ∃ t, mg "IN_ANY_CASE" = some (.int 6 t) := v_IN_ANY_CASE.imp fun _ e => PySem.W.mg_of X G e
  have q_MOST_YEARS : ∃ t, mg "MOST_YEARS" = some (.int 120 t) := v_MOST_YEARS.imp fun _ e => PySem.W.mg_of X G e
  have q_TIMES : ∃ t, mg "TIMES" = some (.int 242 t) := v_TIMES.imp fun _ e => PySem.W.mg_of X G e
  have q_MOST_AGES : ∃ t, mg "MOST_AGES" = some (.int 120 t) := v_MOST_AGES.imp fun _ e => PySem.W.mg_of X G e
  have q_MOST_LIVES : ∃ t, mg "MOST_LIVES" = some (.int 1000000 t) := v_MOST_LIVES.imp fun _ e => PySem.W.mg_of X G e
  have q_GREATEST_PART : ∃ t, mg "GREATEST_PART" = some (.int 1000 t) := v_GREATEST_PART.imp fun _ e => PySem.W.mg_of X G e
  have q_NEWLINE : ∃ t, mg "NEWLINE" = some (.int 10 t) := v_NEWLINE.imp fun _ e => PySem.W.mg_of X G e
  have q_SLASH : ∃ t, mg "SLASH" = some (.int 47 t) := v_SLASH.imp fun _ e => PySem.W.mg_of X G e
  have q_DIGIT_ZERO : ∃ t, mg "DIGIT_ZERO" = some (.int 48 t) := v_DIGIT_ZERO.imp fun _ e => PySem.W.mg_of X G e
  have q_DIGIT_NINE : ∃ t, mg "DIGIT_NINE" = some (.int 57 t) := v_DIGIT_NINE.imp fun _ e => PySem.W.mg_of X G e
  have q_MOST_CONTRACTS : ∃ t, mg "MOST_CONTRACTS" = some (.int 1000000 t) := v_MOST_CONTRACTS.imp fun _ e => PySem.W.mg_of X G e
  have q_ONE_LIFE : ∃ t, mg "ONE_LIFE" = some (.int 0 t) := v_ONE_LIFE.imp fun _ e => PySem.W.mg_of X G e
  have q_TILL_FIRST_DIES : ∃ t, mg "TILL_FIRST_DIES" = some (.int 1 t) := v_TILL_FIRST_DIES.imp fun _ e => PySem.W.mg_of X G e
  have q_TILL_LAST_DIES : ∃ t, mg "TILL_LAST_DIES" = some (.int 2 t) := v_TILL_LAST_DIES.imp fun _ e => PySem.W.mg_of X G e
  have q_LONGEST_TIME : ∃ t, mg "LONGEST_TIME" = some (.int 240 t) := v_LONGEST_TIME.imp fun _ e => PySem.W.mg_of X G e
  have q_BEGIN : ∃ t, mg "BEGIN" = some (.int 0 t) := v_BEGIN.imp fun _ e => PySem.W.mg_of X G e
  have q_ALIVE : ∃ t, mg "ALIVE" = some (.int 1 t) := v_ALIVE.imp fun _ e => PySem.W.mg_of X G e
  have q_MEAN : ∃ t, mg "MEAN" = some (.int 2 t) := v_MEAN.imp fun _ e => PySem.W.mg_of X G e
  have q_WORTH : ∃ t, mg "WORTH" = some (.int 3 t) := v_WORTH.imp fun _ e => PySem.W.mg_of X G e
  have q_PREMIUM : ∃ t, mg "PREMIUM" = some (.int 4 t) := v_PREMIUM.imp fun _ e => PySem.W.mg_of X G e
  have q_RESERVE : ∃ t, mg "RESERVE" = some (.int 5 t) := v_RESERVE.imp fun _ e => PySem.W.mg_of X G e
  have q_PAID : ∃ t, mg "PAID" = some (.int 6 t) := v_PAID.imp fun _ e => PySem.W.mg_of X G e
  have q_LONGEST_TEXT : ∃ t, mg "LONGEST_TEXT" = some (.int 4096 t) := v_LONGEST_TEXT.imp fun _ e => PySem.W.mg_of X G e
  have q_LONGEST_ANSWER : ∃ t, mg "LONGEST_ANSWER" = some (.int 4096 t) := v_LONGEST_ANSWER.imp fun _ e => PySem.W.mg_of X G e
  have k_len : mg "len" = none := PySem.W.mg_none_of X G z_len
  have k_max : mg "max" = none := PySem.W.mg_none_of X G z_max
  have k_min : mg "min" = none := PySem.W.mg_none_of X G z_min
  have k_range : mg "range" = none := PySem.W.mg_none_of X G z_range
  have k_sum : mg "sum" = none := PySem.W.mg_none_of X G z_sum
  have k_abs : mg "abs" = none := PySem.W.mg_none_of X G z_abs
  have k_str : mg "str" = none := PySem.W.mg_none_of X G z_str
  have k_enumerate : mg "enumerate" = none := PySem.W.mg_none_of X G z_enumerate
  have k_ord : mg "ord" = none := PySem.W.mg_none_of X G z_ord
  have k_Exception : mg "Exception" = none := PySem.W.mg_none_of X G z_Exception
  have hN : DK K P w DN nums := dk_nums d_NUMBERS e_NUMBERS
  have gN := PySem.W.mg_of X G a_NUMBERS
  have TPay : TxPay K mg CPa := ⟨c_CPa.cl, n_CPa_kind, n_CPa_wait, n_CPa_years, q_EACH_BEGINNING, q_EACH_END, q_AFTER_ALL_YEARS, q_FOR_ITS_END, q_AFTER_ALL_YEARS_OR_FOR_ITS_END, q_RISING_FOR_ITS_END, q_IN_ANY_CASE, q_MOST_YEARS⟩
  have TRa : TxRatio K CRa := ⟨c_CRa.cl, n_CRa_top, n_CRa_bottom⟩
  have TPr : TxProC K CPr := ⟨c_CPr.cl, n_CPr_status, n_CPr_scales, n_CPr_certain, n_CPr_uncertain⟩
  have TPro : TxPro mg := ⟨q_TIMES, k_range, k_min⟩
  have TTa : TxTable K CTa := ⟨c_CTa.cl, n_CTa_rate, n_CTa_lives⟩
  have TTb : TxTab mg := ⟨q_MOST_AGES, q_MOST_LIVES, q_GREATEST_PART, q_NEWLINE, q_SLASH, q_DIGIT_ZERO, q_DIGIT_NINE, k_len⟩
  have TCo : TxCon K mg CCo := ⟨c_CCo.cl, n_CCo_status, n_CCo_payment, n_CCo_premium_payment, n_CCo_to_pay, n_CCo_to_get, n_CCo_first_to_pay, n_CCo_first_to_get, k_max⟩
  have TYe : TxYear K mg CYe := ⟨c_CYe.cl, n_CYe_contracts, n_CYe_ended, n_CYe_rate_top, n_CYe_rate_bottom, q_MOST_CONTRACTS, q_GREATEST_PART⟩
  have TSt : TxSt K mg CSt := ⟨c_CSt.cl, n_CSt_table, n_CSt_kind, n_CSt_x, n_CSt_y, q_ONE_LIFE, q_TILL_FIRST_DIES, q_TILL_LAST_DIES, q_LONGEST_TIME, k_max, k_min⟩
  have TRd : TxRd K mg CRd := ⟨c_CRd.cl, n_CRd_calls, n_CRd_place, k_len⟩
  have TIn : TxIns K mg CIn := ⟨c_CIn.cl, n_CIn_table, q_BEGIN, q_ALIVE, q_MEAN, q_WORTH, q_PREMIUM, q_RESERVE, q_PAID, q_LONGEST_TEXT, q_LONGEST_ANSWER, k_max, k_len, k_ord⟩
  refine ⟨d_answers, ?_, fun base KB GB => ?_⟩
  · intro s us hu
    obtain ⟨oc, od, kV, doc, pm, an, cdv, ct, osl, rfl, _, _⟩ := F_answers.ex
    exact match us, hu with | [_], _ => .of_eq rfl
  let z : CC := ⟨⟨CRa, CTa, CSt⟩, CPa, CPr, CCo⟩
  have dz : DisC z := ⟨w_r, w_t, w_s, w_p, w_q⟩
  have E_XTo : FnOk P w K mg base CX0 2 f_XTo d_XTo ["self"] (spSub (K := K) arTooLong) := ok_tooLong F_XTo k_Exception g_XRe F_XRe b_XRe m_XRe
  have E_XOu : FnOk P w K mg base CX0 2 f_XOu d_XOu ["self"] (spSub (K := K) arOut) := ok_out F_XOu k_Exception g_XRe F_XRe b_XRe m_XRe
  have E_XWr : FnOk P w K mg base CX0 2 f_XWr d_XWr ["self", "line"] (spSub (K := K) arWrong) := ok_wrong F_XWr k_Exception g_XRe F_XRe b_XRe m_XRe
  have G_demand_within : GF P w K mg base (CXR P w) "demand_within" 4 psD (spDemand K XRe) := ⟨f_demand_within, d_demand_within, ok_demand F_demand_within F_within g_within b_within O_XOu E_XOu b_XOu, F_demand_within.kp, b_demand_within, g_demand_within⟩
  have G_common_divisor : GF P w K mg base CX0 "common_divisor" 1 ["first", "second"] (spGcd) := ⟨f_common_divisor, d_common_divisor, ok_gcd F_common_divisor, F_common_divisor.kp, b_common_divisor, g_common_divisor⟩
  have G_CRa_init : GC P w K mg base CX0 "Ratio" CRa 2 psR (spRatio CRa) := ⟨f_CRa_init, d_CRa_init, ok_ratio F_CRa_init F_common_divisor g_common_divisor b_common_divisor k_abs TRa, m_CRa_init, b_CRa_init, g_CRa⟩
  have G_CRa_text : GM P w K mg base CX0 CRa "text" 1 ["self"] (spText CRa) := ⟨f_CRa_text, d_CRa_text, ok_text F_CRa_text k_str s_digits TRa, m_CRa_text, b_CRa_text⟩
  have E_number : FnOk P w K mg base CX0 2 f_number_of d_number_of ["digits", "least", "greatest"] (spNumber K) := ok_number F_number_of TTb F_within g_within b_within
  have E_lines : FnOk P w K mg base CX0 1 f_lines_of d_lines_of ["text"] (spLines K) := ok_lines F_lines_of TTb
  have E_ratio : FnOk P w K mg base CX0 2 f_CRa_init d_CRa_init psR (spRatio CRa) := ok_ratio F_CRa_init F_common_divisor g_common_divisor b_common_divisor k_abs TRa
  have E_rate : FnOk P w K mg base (CXR P w) 4 f_rate_of d_rate_of ["line"] (spRate K XRe CRa) := ok_rate F_rate_of TTb E_number F_number_of.kp g_number_of b_number_of O_XWr E_XWr b_XWr m_CRa_init E_ratio g_CRa b_CRa_init
  have E_lives : FnOk P w K mg base (CXR P w) 4 f_lives_of d_lives_of ["lines"] (spLives K XRe) := ok_lives F_lives_of TTb k_enumerate E_number F_number_of.kp g_number_of b_number_of O_XWr E_XWr b_XWr
  have E_tab : FnOk P w K mg base CX0 1 f_CTa_init d_CTa_init ["self", "rate", "lives"] (spTabInit CTa) := ok_tabInit F_CTa_init TTa
  have G_table_of : GF P w K mg base (CXR P w) "table_of" 5 ["text"] (spTable K XRe CRa CTa) := ⟨f_table_of, d_table_of, ok_tableOf F_table_of E_lines F_lines_of.kp g_lines_of b_lines_of E_rate F_rate_of.kp g_rate_of b_rate_of E_lives F_lives_of.kp g_lives_of b_lives_of m_CTa_init E_tab g_CTa b_CTa_init, F_table_of.kp, b_table_of, g_table_of⟩
  have G_CTa_oldest : GM P w K mg base CX0 CTa "oldest" 1 ["self"] (spOldest CRa CTa) := ⟨f_CTa_oldest, d_CTa_oldest, ok_oldest F_CTa_oldest TTa k_len, m_CTa_oldest, b_CTa_oldest⟩
  have E_oldest : FnOk P w K mg base CX0 1 f_CTa_oldest d_CTa_oldest ["self"] (spOldest CRa CTa) := ok_oldest F_CTa_oldest TTa k_len
  have G_CTa_living : GM P w K mg base CX0 CTa "living" 2 ["self", "age"] (spLiving CRa CTa) := ⟨f_CTa_living, d_CTa_living, ok_living F_CTa_living TTa E_oldest b_CTa_oldest m_CTa_oldest, m_CTa_living, b_CTa_living⟩
  have G_CSt_init : GC P w K mg base (CXR P w) "Status" CSt 5 ["self", "table", "kind", "x", "y"] (spStInit K XRe z.toCS) := ⟨f_CSt_init, d_CSt_init, ok_stInit (c := z.toCS) F_CSt_init TSt TTa G_demand_within G_CTa_oldest, m_CSt_init, b_CSt_init, g_CSt⟩
  have G_CSt_ways : GM P w K mg base CX0 CSt "ways" 3 psW (spWays z.toCS) := ⟨f_CSt_ways, d_CSt_ways, ok_ways (c := z.toCS) F_CSt_ways TSt TTa G_CTa_living, m_CSt_ways, b_CSt_ways⟩
  have G_CSt_time_gone : GM P w K mg base CX0 CSt "time_gone" 2 ["self"] (spGone z.toCS) := ⟨f_CSt_time_gone, d_CSt_time_gone, ok_gone (c := z.toCS) F_CSt_time_gone TSt TTa G_CTa_oldest, m_CSt_time_gone, b_CSt_time_gone⟩
  have G_CSt_demand_there : GM P w K mg base (CXR P w) CSt "demand_there" 5 psW (spThere K XRe z.toCS) := ⟨f_CSt_demand_there, d_CSt_demand_there, ok_there (c := z.toCS) F_CSt_demand_there TSt G_demand_within G_CSt_ways O_XOu E_XOu b_XOu, m_CSt_demand_there, b_CSt_demand_there⟩
  have G_alive : GF P w K mg base (CXR P w) "alive" 5 ["status", "when"] (spAlive K XRe z.toCS) := ⟨f_alive, d_alive, ok_alive (c := z.toCS) F_alive TSt G_demand_within G_CSt_ways G_CRa_init, F_alive.kp, b_alive, g_alive⟩
  have G_mean : GF P w K mg base CX0 "mean" 4 ["status"] (spMean K XRe z.toCS) := ⟨f_mean, d_mean, ok_mean (c := z.toCS) F_mean TSt TTa G_CTa_oldest G_CSt_ways G_CRa_init k_range k_sum, F_mean.kp, b_mean, g_mean⟩
  have G_CPa_init : GC P w K mg base (CXR P w) "Payment" CPa 5 ["self", "kind", "wait", "years"] (spPayInit K XRe CPa) := ⟨f_CPa_init, d_CPa_init, ok_payInit F_CPa_init TPay G_demand_within, m_CPa_init, b_CPa_init, g_CPa⟩
  have G_CPa_last_time : GM P w K mg base CX0 CPa "last_time" 1 ["self"] (spLastT CPa) := ⟨f_CPa_last_time, d_CPa_last_time, ok_lastT F_CPa_last_time TPay, m_CPa_last_time, b_CPa_last_time⟩
  have G_CPa_begins_year : GM P w K mg base CX0 CPa "begins_year" 2 psW (spBegins CPa) := ⟨f_CPa_begins_year, d_CPa_begins_year, ok_begins F_CPa_begins_year TPay G_CPa_last_time, m_CPa_begins_year, b_CPa_begins_year⟩
  have G_CPa_ends_year : GM P w K mg base CX0 CPa "ends_year" 2 psW (spEnds CPa) := ⟨f_CPa_ends_year, d_CPa_ends_year, ok_ends F_CPa_ends_year TPay G_CPa_last_time, m_CPa_ends_year, b_CPa_ends_year⟩
  have G_CPa_in_any_case : GM P w K mg base CX0 CPa "in_any_case" 3 psW (spAny CPa) := ⟨f_CPa_in_any_case, d_CPa_in_any_case, ok_any F_CPa_in_any_case TPay G_CPa_begins_year, m_CPa_in_any_case, b_CPa_in_any_case⟩
  have G_CPa_if_there : GM P w K mg base CX0 CPa "if_there" 3 psW (spIfT CPa) := ⟨f_CPa_if_there, d_CPa_if_there, ok_ifT F_CPa_if_there TPay G_CPa_last_time G_CPa_begins_year G_CPa_ends_year, m_CPa_if_there, b_CPa_if_there⟩
  have G_CPa_for_its_end : GM P w K mg base CX0 CPa "for_its_end" 3 psW (spEndP CPa) := ⟨f_CPa_for_its_end, d_CPa_for_its_end, ok_endP F_CPa_for_its_end TPay G_CPa_ends_year, m_CPa_for_its_end, b_CPa_for_its_end⟩
  have G_scales_of : GF P w K mg base CX0 "scales_of" 1 ["rate", "last"] (spScales CRa) := ⟨f_scales_of, d_scales_of, ok_scales F_scales_of TPro TRa, F_scales_of.kp, b_scales_of, g_scales_of⟩
  have G_certain_parts : GF P w K mg base CX0 "certain_parts" 4 psC (spCert CRa CPa) := ⟨f_certain_parts, d_certain_parts, ok_cert F_certain_parts TPro TRa TPay G_CPa_in_any_case, F_certain_parts.kp, b_certain_parts, g_certain_parts⟩
  have G_uncertain_parts : GF P w K mg base CX0 "uncertain_parts" 4 psU (spUnc z.toCS CPa) := ⟨f_uncertain_parts, d_uncertain_parts, ok_unc (c := z.toCS) F_uncertain_parts TPro TRa TTa TSt TPay G_CSt_ways G_CPa_if_there G_CPa_for_its_end, F_uncertain_parts.kp, b_uncertain_parts, g_uncertain_parts⟩
  have G_last_paid : GF P w K mg base CX0 "last_paid" 3 ["status", "payment"] (spLastPaid z.toCS CPa) := ⟨f_last_paid, d_last_paid, ok_lastPaid (c := z.toCS) F_last_paid TPro TSt TPay G_CPa_last_time G_CSt_time_gone, F_last_paid.kp, b_last_paid, g_last_paid⟩
  have G_CPr_init : GC P w K mg base CX0 "Prospect" CPr 5 psQ (spProInit z.toCS CPa CPr) := ⟨f_CPr_init, d_CPr_init, ok_proInit (c := z.toCS) F_CPr_init TPr TTa TSt G_scales_of G_certain_parts G_uncertain_parts, m_CPr_init, b_CPr_init, g_CPr⟩
  have G_CPr_parts : GM P w K mg base CX0 CPr "parts" 4 psW (spParts z.toCS CPr) := ⟨f_CPr_parts, d_CPr_parts, ok_parts (c := z.toCS) F_CPr_parts TPr TSt G_CSt_ways, m_CPr_parts, b_CPr_parts⟩
  have G_CPr_parts_in_any_case : GM P w K mg base CX0 CPr "parts_in_any_case" 4 psW (spPartsAny z.toCS CPr) := ⟨f_CPr_parts_in_any_case, d_CPr_parts_in_any_case, ok_partsAny (c := z.toCS) F_CPr_parts_in_any_case TPr TSt G_CSt_ways, m_CPr_parts_in_any_case, b_CPr_parts_in_any_case⟩
  have G_CPr_whole : GM P w K mg base CX0 CPr "whole" 4 psW (spWhole z.toCS CPr) := ⟨f_CPr_whole, d_CPr_whole, ok_whole (c := z.toCS) F_CPr_whole TPr TSt G_CSt_ways, m_CPr_whole, b_CPr_whole⟩
  have G_worth : GF P w K mg base CX0 "worth" 7 ["status", "payment"] (spWorth K XRe z.toCS CPa) := ⟨f_worth, d_worth, ok_worth (c := z.toCS) F_worth TPr G_CPr_init G_last_paid G_CPr_parts G_CPr_whole G_CRa_init, F_worth.kp, b_worth, g_worth⟩
  have G_CCo_init : GC P w K mg base (CXR P w) "Contract" CCo 7 psK (spConInit K XRe z) := ⟨f_CCo_init, d_CCo_init, ok_conInit (z := z) F_CCo_init dz TCo TPr TPay G_demand_within G_CPa_init G_last_paid G_CPr_init G_CPr_parts, m_CCo_init, b_CCo_init, g_CCo⟩
  have G_CCo_reserve_parts : GM P w K mg base CX0 CCo "reserve_parts" 5 psW (spCon z rParts) := ⟨f_CCo_reserve_parts, d_CCo_reserve_parts, ok_rp (z := z) F_CCo_reserve_parts TCo TPr G_CPr_parts, m_CCo_reserve_parts, b_CCo_reserve_parts⟩
  have G_CCo_reserve_whole : GM P w K mg base CX0 CCo "reserve_whole" 5 psW (spCon z fun T c L t => ((rWhole T c L t : Nat) : Int)) := ⟨f_CCo_reserve_whole, d_CCo_reserve_whole, ok_rw (z := z) F_CCo_reserve_whole TCo TPr G_CPr_whole, m_CCo_reserve_whole, b_CCo_reserve_whole⟩
  have G_CCo_premium_parts : GM P w K mg base CX0 CCo "premium_parts" 5 psW (spCon z fun T c L t => ((ifT 0 0 c.paying t * toPay T c L 0 * wholeOf T c.status L t : Nat) : Int)) := ⟨f_CCo_premium_parts, d_CCo_premium_parts, ok_pp (z := z) F_CCo_premium_parts TCo TPr TPay G_CPa_if_there G_CPr_whole, m_CCo_premium_parts, b_CCo_premium_parts⟩
  have G_CCo_due_parts : GM P w K mg base CX0 CCo "due_parts" 6 psW (spCon z fun T c L t => ((amt .living (Sd49.benefits c) t + amt .sure (Sd49.benefits c) t : Nat) : Int) * ((rWhole T c L t : Nat) : Int)) := ⟨f_CCo_due_parts, d_CCo_due_parts, ok_dp (z := z) F_CCo_due_parts TCo TPay G_CPa_if_there G_CPa_in_any_case G_CCo_reserve_whole, m_CCo_due_parts, b_CCo_due_parts⟩
  have G_CCo_ended_parts : GM P w K mg base CX0 CCo "ended_parts" 6 psW (spCon z fun T c L t => ((endParts T c L t : Nat) : Int)) := ⟨f_CCo_ended_parts, d_CCo_ended_parts, ok_ep (z := z) F_CCo_ended_parts TCo TPay TPr G_CPa_for_its_end G_CPr_parts_in_any_case G_CCo_reserve_whole, m_CCo_ended_parts, b_CCo_ended_parts⟩
  have G_CYe_init : GC P w K mg base (CXR P w) "Year" CYe 5 psY (spYearInit K XRe CYe) := ⟨f_CYe_init, d_CYe_init, ok_yearInit F_CYe_init TYe G_demand_within, m_CYe_init, b_CYe_init, g_CYe⟩
  have G_difference : GF P w K mg base CX0 "difference" 4 psF (spDiff K XRe CRa) := ⟨f_difference, d_difference, ok_diff F_difference G_common_divisor G_CRa_init, F_difference.kp, b_difference, g_difference⟩
  have G_premium : GF P w K mg base CX0 "premium" 4 ["contract"] (spPrem K XRe z) := ⟨f_premium, d_premium, ok_prem (z := z) F_premium TCo G_CRa_init, F_premium.kp, b_premium, g_premium⟩
  have G_reserve : GF P w K mg base (CXR P w) "reserve" 6 ["contract", "when"] (spReserve K XRe z) := ⟨f_reserve, d_reserve, ok_reserve (z := z) F_reserve TCo TSt G_CSt_demand_there G_CCo_reserve_parts G_CCo_reserve_whole G_CRa_init, F_reserve.kp, b_reserve, g_reserve⟩
  have G_paid : GF P w K mg base (CXR P w) "paid" 6 ["contract", "when"] (spPaid K XRe z) := ⟨f_paid, d_paid, ok_paid (z := z) F_paid TCo TSt TPr G_CSt_demand_there G_CCo_reserve_parts G_CPr_parts G_CRa_init O_XOu E_XOu b_XOu, F_paid.kp, b_paid, g_paid⟩
  have G_gain : GF P w K mg base (CXR P w) "gain" 7 psG (spGain K XRe z CYe) := ⟨f_gain, d_gain, ok_gain (z := z) F_gain TCo TSt TYe G_CSt_demand_there G_CCo_reserve_parts G_CCo_reserve_whole G_CCo_due_parts G_CCo_premium_parts G_CCo_ended_parts G_difference, F_gain.kp, b_gain, g_gain⟩
  have G_CRd_init : GC P w K mg base CX0 "CallReader" CRd 1 ["self", "calls"] (spRdInit CRd) := ⟨f_CRd_init, d_CRd_init, ok_rdInit F_CRd_init TRd, m_CRd_init, b_CRd_init, g_CRd⟩
  have G_CRd_all_read : GM P w K mg base CX0 CRd "all_read" 1 ["self"] (spAllRead K CRd) := ⟨f_CRd_all_read, d_CRd_all_read, ok_allRead F_CRd_all_read TRd, m_CRd_all_read, b_CRd_all_read⟩
  have G_CRd_take_number : GM P w K mg base CX0 CRd "take_number" 1 ["self"] (spTake K CRd) := ⟨f_CRd_take_number, d_CRd_take_number, ok_take F_CRd_take_number TRd, m_CRd_take_number, b_CRd_take_number⟩
  have G_CRd_take_numbers : GM P w K mg base CX0 CRd "take_numbers" 1 ["self", "count"] (spTakes K CRd) := ⟨f_CRd_take_numbers, d_CRd_take_numbers, ok_takes F_CRd_take_numbers TRd, m_CRd_take_numbers, b_CRd_take_numbers⟩
  have G_CIn_init : GC P w K mg base CX0 "Insurance" CIn 1 ["self"] (spInsInit CIn) := ⟨f_CIn_init, d_CIn_init, ok_insInit F_CIn_init TIn, m_CIn_init, b_CIn_init, g_CIn⟩
  have G_CIn_contract_fraction : GM P w K mg base (CXR P w) CIn "contract_fraction" 8 psCF (spCF K XRe z) := ⟨f_CIn_contract_fraction, d_CIn_contract_fraction, ok_cf (z := z) F_CIn_contract_fraction TIn G_premium G_reserve G_paid G_gain G_CYe_init, m_CIn_contract_fraction, b_CIn_contract_fraction⟩
  have G_CIn_fraction : GM P w K mg base (CXR P w) CIn "fraction" 9 psFr (spFrac K XRe z CIn) := ⟨f_CIn_fraction, d_CIn_fraction, ok_frac (z := z) F_CIn_fraction TIn G_CSt_init G_alive G_mean G_CPa_init G_worth G_CCo_init G_CIn_contract_fraction, m_CIn_fraction, b_CIn_fraction⟩
  have G_CIn_begin : GM P w K mg base (CXR P w) CIn "begin" 6 ["self", "reader"] (spBegin K XRe z CIn CRd) := ⟨f_CIn_begin, d_CIn_begin, ok_begin (z := z) F_CIn_begin TIn TRd G_CRd_take_number G_CRd_take_numbers G_demand_within G_table_of, m_CIn_begin, b_CIn_begin⟩
  have G_CIn_tell : GM P w K mg base (CXR P w) CIn "tell" 10 ["self", "call", "reader"] (spTell K XRe z CIn CRd) := ⟨f_CIn_tell, d_CIn_tell, ok_tell (z := z) F_CIn_tell TIn TRd TRa hN gN G_CRd_take_numbers G_demand_within G_CIn_fraction G_CRa_text O_XTo E_XTo b_XTo, m_CIn_tell, b_CIn_tell⟩
  have G_CIn_carry_out : GM P w K mg base CX0 CIn "carry_out" 11 ["self", "reader"] (spCarry K z CIn CRd) := ⟨f_CIn_carry_out, d_CIn_carry_out, ok_carry (z := z) F_CIn_carry_out TIn TRd r_XRe g_XRe G_CRd_take_number G_CIn_begin G_CIn_tell, m_CIn_carry_out, b_CIn_carry_out⟩
  exact ok_answers (z := z) F_answers TIn TRd G_CRd_init G_CIn_init G_CRd_all_read G_CIn_carry_out
end LT
end

set_option linter.all false
set_option Elab.async false
namespace PySem.W.Fast
def tw6647574104921332747 : Nat := 0
def tw14663285475012906505 : Nat := 0
def tw8632846499779416774 : Nat := 0
def tw16393466856406284231 : Nat := 0
def tw5483557075814312459 : Nat := 0
def tw3468470094534200409 : Nat := 0
def tw3799324790557970642 : Nat := 0
def tw6389781389879014223 : Nat := 0
def tw7692796262375193824 : Nat := 0
def tw3173784751521869140 : Nat := 0
def tw14270964571441597934 : Nat := 0
def tw17693717549750616992 : Nat := 0
def tw3138171735864733192 : Nat := 0
def tw13389813291002956404 : Nat := 0
def tw17258152248470081999 : Nat := 0
def tw9536061633742006260 : Nat := 0
def tw16107152359093643393 : Nat := 0
def tw13779584331482887689 : Nat := 0
def tw10783676102635256757 : Nat := 0
def tw6299751865731537774 : Nat := 0
def tw9844075064131254665 : Nat := 0
def tw15940128345785044425 : Nat := 0
def tw3798694670443113754 : Nat := 0
def tw5067567297752801589 : Nat := 0
def tw12406410771699023664 : Nat := 0
def tw7797798694410899079 : Nat := 0
def tw10779961787126223618 : Nat := 0
def tw618132255876802325 : Nat := 0
def tw8794962539069592284 : Nat := 0
def tw3099173910660361313 : Nat := 0
def tw2791171888607803340 : Nat := 0
def tw7148050049698808340 : Nat := 0
def tw3441900085527256243 : Nat := 0
def tw17920334376012627423 : Nat := 0
def tw5356196165442146549 : Nat := 0
def tw6149527062130989289 : Nat := 0
def tw11577872789748882707 : Nat := 0
def tw11319925789357177721 : Nat := 0
def tw7004881203304938037 : Nat := 0
def tw12281244199876655628 : Nat := 0
def tw16017595784596944341 : Nat := 0
def tw12465487120022126933 : Nat := 0
def tw17645538771966280654 : Nat := 0
def tw14746795397659093897 : Nat := 0
def tw3964129520944496871 : Nat := 0
def tw8543137708742727908 : Nat := 0
def tw6259945201150970308 : Nat := 0
def tw18326668986590102140 : Nat := 0
def tw7853680049837660081 : Nat := 0
def tw16405427558610487226 : Nat := 0
def tw12290523094912424995 : Nat := 0
def tw18301552598800206099 : Nat := 0
def tw15940023592133090704 : Nat := 0
def tw4379838935069048111 : Nat := 0
def tw11217128018628656370 : Nat := 0
def tw12210072990278465268 : Nat := 0
def tw8221925346163168299 : Nat := 0
def tw12939006426522427772 : Nat := 0
def tw3843210765585958393 : Nat := 0
def tw7430379069983371296 : Nat := 0
def tw1165329133061707734 : Nat := 0
def tw3239040173780762926 : Nat := 0
def tw17941288409543971486 : Nat := 0
def tw10994462404860691866 : Nat := 0
def tw3579662839921572200 : Nat := 0
def tw7387082898514021028 : Nat := 0
def tw15512679484484386635 : Nat := 0
def tw10636167774816835524 : Nat := 0
def tw8362365917836817265 : Nat := 0
def tw4941602258173042137 : Nat := 0
def tw8572866280649048323 : Nat := 0
def tw9496379923183065141 : Nat := 0
def tw4762826492254122189 : Nat := 0
def tw17091955272296808911 : Nat := 0
def tw7099269876164714061 : Nat := 0
def tw7466903247456937507 : Nat := 0
def tw5900405481454120162 : Nat := 0
def tw1184337732988262543 : Nat := 0
def tw17562072277763616208 : Nat := 0
def tw8314388489644057649 : Nat := 0
def tw2296460451558078434 : Nat := 0
def tw2325053461011358569 : Nat := 0
def tw16902017149583602585 : Nat := 0
def tw10892646989508025966 : Nat := 0
def tw12257239499887175684 : Nat := 0
def tw15587791750512395286 : Nat := 0
def tw11509738189165537053 : Nat := 0
def tw5385538503643255617 : Nat := 0
def tw13109031123402919565 : Nat := 0
def tw12746877953406470340 : Nat := 0
def tw8966986153713735735 : Nat := 0
def tw11609756702140498074 : Nat := 0
def tw16031230172744605064 : Nat := 0
def tw11582117650341271960 : Nat := 0
def tw4326042302654824962 : Nat := 0
def tw16209748392390682923 : Nat := 0
def tw1055234347579715153 : Nat := 0
def tw8253025299086948296 : Nat := 0
def tw1208057605834627758 : Nat := 0
def tw1195166518080634977 : Nat := 0
def tw11570289496038374298 : Nat := 0
def tw10793063306752836496 : Nat := 0
def tw14756407580770887464 : Nat := 0
def tw16298125894779351452 : Nat := 0
def tw9944486060178312818 : Nat := 0
def tw8561879777081251823 : Nat := 0
def tw3999937138288148286 : Nat := 0
def tw827018824182261963 : Nat := 0
def tw14135430123143185778 : Nat := 0
def tw5934458853659268142 : Nat := 0
def tw8126182426136989127 : Nat := 0
def tw13776763077384774397 : Nat := 0
def tw10325015218950164800 : Nat := 0
def tw524796295253221321 : Nat := 0
def tw9380066463646988939 : Nat := 0
def tw11440998649522111752 : Nat := 0
def tw17251598287163683375 : Nat := 0
def tw5328069135256363071 : Nat := 0
def tw7431504865908775319 : Nat := 0
def tw758288394288931830 : Nat := 0
def tw11515954650475605659 : Nat := 0
def tw12603469397737593110 : Nat := 0
def tw17664642499947770615 : Nat := 0
def tw13784974962033282838 : Nat := 0
def tw1591727203800330752 : Nat := 0
def tw6567272222733385552 : Nat := 0
def tw16971344274306726031 : Nat := 0
def tw9433701844878434995 : Nat := 0
def tw11413906155126925995 : Nat := 0
def tw16113376031787238751 : Nat := 0
def tw16887615339068714716 : Nat := 0
def tw10003735699753307849 : Nat := 0
def tw10983831970832163096 : Nat := 0
def tw3962305361477339118 : Nat := 0
def tw2437734614243828995 : Nat := 0
def tw535479243081226033 : Nat := 0
def tw10525862953807926332 : Nat := 0
def tw2728572288436129530 : Nat := 0
def tw11669054197011690867 : Nat := 0
def tw9716867912046692429 : Nat := 0
def tw7341400228931577880 : Nat := 0
def tw1848564482825031503 : Nat := 0
def tw12280432909800524556 : Nat := 0
def tw6415658160703624869 : Nat := 0
def tw1786346217854190425 : Nat := 0
def tw16837387169486997440 : Nat := 0
def tw5365004410138832826 : Nat := 0
def tw11559570910699378999 : Nat := 0
def tw963035499962060579 : Nat := 0
def tw15741211389755570747 : Nat := 0
def tw6191136805106772320 : Nat := 0
def tw11172735236195082158 : Nat := 0
def tw8080235037115571919 : Nat := 0
def tw1282783763402547630 : Nat := 0
def tw2875660357181708835 : Nat := 0
def tw8631378015035784753 : Nat := 0
def tw10087121563215710609 : Nat := 0
def tw5084535676443972453 : Nat := 0
def tw6869865741876798905 : Nat := 0
def tw3371589333000423556 : Nat := 0
def tw14801204485076922830 : Nat := 0
def tw10288588377796859714 : Nat := 0
def tw15952026294615251777 : Nat := 0
def tw904558320371927650 : Nat := 0
def tw2380151311719284923 : Nat := 0
def tw9400800883922073444 : Nat := 0
def tw15762179246807439362 : Nat := 0
def tw15321314838025684384 : Nat := 0
def tw687143248552000603 : Nat := 0
def tw9727566758328270254 : Nat := 0
def tw13473358109754887409 : Nat := 0
def tw8561540900159143752 : Nat := 0
def tw9736943308773905119 : Nat := 0
def tw841512627306235413 : Nat := 0
def tw17271855312064971603 : Nat := 0
def tw6011191095147058160 : Nat := 0
def tw17207694044418044347 : Nat := 0
def tw13656930951353917558 : Nat := 0
def tw13213289909106440378 : Nat := 0
def tw10751438481258550401 : Nat := 0
def tw16572667765111126089 : Nat := 0
def tw16441619513619411896 : Nat := 0
def tw1569064417298909177 : Nat := 0
def tw9116443582529199959 : Nat := 0
def tw9657047366908420463 : Nat := 0
def tw5649714512372137641 : Nat := 0
def tw8162950823932429877 : Nat := 0
def tw12536676663354074478 : Nat := 0
def tw10642392127691053450 : Nat := 0
def tw7637210827641427902 : Nat := 0
def tw647021017993138204 : Nat := 0
def tw1360482271937443766 : Nat := 0
def tw1646123401905021934 : Nat := 0
def tw16692473713631250543 : Nat := 0
def tw395644442981440303 : Nat := 0
def tw11447781169975737716 : Nat := 0
def tw1335343862570490173 : Nat := 0
def tw6981673067528847714 : Nat := 0
def tw934791541805856943 : Nat := 0
def tw593077025415970890 : Nat := 0
def tw15094284295589513366 : Nat := 0
def tw4420443358879085074 : Nat := 0
end PySem.W.Fast
open PySem PySem.W PyProof.Rows
set_option maxRecDepth 100000 in
set_option maxHeartbeats 0 in
theorem PySem.Challenge.cw_livetable_s01_answers_holds : PySem.Challenge.rw_livetable_s01_answers.Holds := by
  w_on; k_headS; (case hw => exact ⟨[.list [.int 0, .int 0]], by decide +kernel, by decide +kernel⟩)
  k_fillS
  refine L2.walk_specK (r := PySem.Challenge.rw_livetable_s01_answers) (k := 12) (CX := L2.CX0) (ps := ["calls"]) (sp := LT.spAnswers) (by decide +kernel) rfl rfl ⟨rfl, by decide, by decide⟩ (fun w h Y => PySem.W.kIn_of Y) ?F ?S (fun _ _ _ _ z => z)
  case F =>
    intro w mg fa h Y KX G hmg
    refine' LT.all_mk KX G hmg ?a_within ?h_within ?a_demand_within ?h_demand_within ?a_common_divisor ?h_common_divisor ?a_difference ?h_difference ?a_last_paid ?h_last_paid ?a_scales_of ?h_scales_of ?a_certain_parts ?h_certain_parts ?a_uncertain_parts ?h_uncertain_parts ?a_worth ?h_worth ?a_table_of ?h_table_of ?a_lines_of ?h_lines_of ?a_rate_of ?h_rate_of ?a_lives_of ?h_lives_of ?a_number_of ?h_number_of ?a_premium ?h_premium ?a_reserve ?h_reserve ?a_paid ?h_paid ?a_gain ?h_gain ?a_alive ?h_alive ?a_mean ?h_mean ?a_answers ?h_answers ?a_CPa ?c_CPa ?n_CPa_kind ?n_CPa_wait ?n_CPa_years ?a_CPa_init ?i_CPa_init ?h_CPa_init ?a_CPa_last_time ?i_CPa_last_time ?h_CPa_last_time ?a_CPa_begins_year ?i_CPa_begins_year ?h_CPa_begins_year ?a_CPa_ends_year ?i_CPa_ends_year ?h_CPa_ends_year ?a_CPa_in_any_case ?i_CPa_in_any_case ?h_CPa_in_any_case ?a_CPa_if_there ?i_CPa_if_there ?h_CPa_if_there ?a_CPa_for_its_end ?i_CPa_for_its_end ?h_CPa_for_its_end ?a_CRa ?c_CRa ?n_CRa_top ?n_CRa_bottom ?a_CRa_init ?i_CRa_init ?h_CRa_init ?a_CRa_text ?i_CRa_text ?h_CRa_text ?a_CPr ?c_CPr ?n_CPr_status ?n_CPr_scales ?n_CPr_certain ?n_CPr_uncertain ?a_CPr_init ?i_CPr_init ?h_CPr_init ?a_CPr_parts ?i_CPr_parts ?h_CPr_parts ?a_CPr_parts_in_any_case ?i_CPr_parts_in_any_case ?h_CPr_parts_in_any_case ?a_CPr_whole ?i_CPr_whole ?h_CPr_whole ?a_CTa ?c_CTa ?n_CTa_rate ?n_CTa_lives ?a_CTa_init ?i_CTa_init ?h_CTa_init ?a_CTa_oldest ?i_CTa_oldest ?h_CTa_oldest ?a_CTa_living ?i_CTa_living ?h_CTa_living ?a_CCo ?c_CCo ?n_CCo_status ?n_CCo_payment ?n_CCo_premium_payment ?n_CCo_to_pay ?n_CCo_to_get ?n_CCo_first_to_pay ?n_CCo_first_to_get ?a_CCo_init ?i_CCo_init ?h_CCo_init ?a_CCo_reserve_parts ?i_CCo_reserve_parts ?h_CCo_reserve_parts ?a_CCo_reserve_whole ?i_CCo_reserve_whole ?h_CCo_reserve_whole ?a_CCo_premium_parts ?i_CCo_premium_parts ?h_CCo_premium_parts ?a_CCo_due_parts ?i_CCo_due_parts ?h_CCo_due_parts ?a_CCo_ended_parts ?i_CCo_ended_parts ?h_CCo_ended_parts ?a_CYe ?c_CYe ?n_CYe_contracts ?n_CYe_ended ?n_CYe_rate_top ?n_CYe_rate_bottom ?a_CYe_init ?i_CYe_init ?h_CYe_init ?a_CSt ?c_CSt ?n_CSt_table ?n_CSt_kind ?n_CSt_x ?n_CSt_y ?a_CSt_init ?i_CSt_init ?h_CSt_init ?a_CSt_ways ?i_CSt_ways ?h_CSt_ways ?a_CSt_time_gone ?i_CSt_time_gone ?h_CSt_time_gone ?a_CSt_demand_there ?i_CSt_demand_there ?h_CSt_demand_there ?a_CRd ?c_CRd ?n_CRd_calls ?n_CRd_place ?a_CRd_init ?i_CRd_init ?h_CRd_init ?a_CRd_all_read ?i_CRd_all_read ?h_CRd_all_read ?a_CRd_take_number ?i_CRd_take_number ?h_CRd_take_number ?a_CRd_take_numbers ?i_CRd_take_numbers ?h_CRd_take_numbers ?a_CIn ?c_CIn ?n_CIn_table ?a_CIn_init ?i_CIn_init ?h_CIn_init ?a_CIn_carry_out ?i_CIn_carry_out ?h_CIn_carry_out ?a_CIn_begin ?i_CIn_begin ?h_CIn_begin ?a_CIn_tell ?i_CIn_tell ?h_CIn_tell ?a_CIn_fraction ?i_CIn_fraction ?h_CIn_fraction ?a_CIn_contract_fraction ?i_CIn_contract_fraction ?h_CIn_contract_fraction ?a_XRe ?u_XRe ?h_XRe ?r_XRe ?m_XRe ?a_XTo ?u_XTo ?h_XTo ?r_XTo ?a_XOu ?u_XOu ?h_XOu ?r_XOu ?a_XWr ?u_XWr ?h_XWr ?r_XWr ?v_EACH_BEGINNING ?v_EACH_END ?v_AFTER_ALL_YEARS ?v_FOR_ITS_END ?v_AFTER_ALL_YEARS_OR_FOR_ITS_END ?v_RISING_FOR_ITS_END ?v_IN_ANY_CASE ?v_MOST_YEARS ?v_TIMES ?v_MOST_AGES ?v_MOST_LIVES ?v_GREATEST_PART ?v_NEWLINE ?v_SLASH ?v_DIGIT_ZERO ?v_DIGIT_NINE ?v_MOST_CONTRACTS ?v_ONE_LIFE ?v_TILL_FIRST_DIES ?v_TILL_LAST_DIES ?v_LONGEST_TIME ?v_BEGIN ?v_ALIVE ?v_MEAN ?v_WORTH ?v_PREMIUM ?v_RESERVE ?v_PAID ?v_LONGEST_TEXT ?v_LONGEST_ANSWER ?z_len ?z_max ?z_min ?z_range ?z_sum ?z_abs ?z_str ?z_enumerate ?z_ord ?z_Exception ?a_NUMBERS ?d_NUMBERS ?e_NUMBERS ?s_digits ?w_r ?w_t ?w_s ?w_p ?w_q
    (case a_within => k_is)
    (case h_within => exact ⟨_, L2.fun_mk (by k_is) (by k_is) (by k_is)⟩)
    (case a_demand_within => k_is)
    (case h_demand_within => exact ⟨_, L2.fun_mk (by k_is) (by k_is) (by k_is)⟩)
    (case a_common_divisor => k_is)
    (case h_common_divisor => exact ⟨_, L2.fun_mk (by k_is) (by k_is) (by k_is)⟩)
    (case a_difference => k_is)
    (case h_difference => exact ⟨_, L2.fun_mk (by k_is) (by k_is) (by k_is)⟩)
    (case a_last_paid => k_is)
    (case h_last_paid => exact ⟨_, L2.fun_mk (by k_is) (by k_is) (by k_is)⟩)
    (case a_scales_of => k_is)
    (case h_scales_of => exact ⟨_, L2.fun_mk (by k_is) (by k_is) (by k_is)⟩)
    (case a_certain_parts => k_is)
    (case h_certain_parts => exact ⟨_, L2.fun_mk (by k_is) (by k_is) (by k_is)⟩)
    (case a_uncertain_parts => k_is)
    (case h_uncertain_parts => exact ⟨_, L2.fun_mk (by k_is) (by k_is) (by k_is)⟩)
    (case a_worth => k_is)
    (case h_worth => exact ⟨_, L2.fun_mk (by k_is) (by k_is) (by k_is)⟩)
    (case a_table_of => k_is)
    (case h_table_of => exact ⟨_, L2.fun_mk (by k_is) (by k_is) (by k_is)⟩)
    (case a_lines_of => k_is)
    (case h_lines_of => exact ⟨_, L2.fun_mk (by k_is) (by k_is) (by k_is)⟩)
    (case a_rate_of => k_is)
    (case h_rate_of => exact ⟨_, L2.fun_mk (by k_is) (by k_is) (by k_is)⟩)
    (case a_lives_of => k_is)
    (case h_lives_of => exact ⟨_, L2.fun_mk (by k_is) (by k_is) (by k_is)⟩)
    (case a_number_of => k_is)
    (case h_number_of => exact ⟨_, L2.fun_mk (by k_is) (by k_is) (by k_is)⟩)
    (case a_premium => k_is)
    (case h_premium => exact ⟨_, L2.fun_mk (by k_is) (by k_is) (by k_is)⟩)
    (case a_reserve => k_is)
    (case h_reserve => exact ⟨_, L2.fun_mk (by k_is) (by k_is) (by k_is)⟩)
    (case a_paid => k_is)
    (case h_paid => exact ⟨_, L2.fun_mk (by k_is) (by k_is) (by k_is)⟩)
    (case a_gain => k_is)
    (case h_gain => exact ⟨_, L2.fun_mk (by k_is) (by k_is) (by k_is)⟩)
    (case a_alive => k_is)
    (case h_alive => exact ⟨_, L2.fun_mk (by k_is) (by k_is) (by k_is)⟩)
    (case a_mean => k_is)
    (case h_mean => exact ⟨_, L2.fun_mk (by k_is) (by k_is) (by k_is)⟩)
    (case a_answers => k_is)
    (case h_answers => exact ⟨_, L2.fun_mk (by k_is) (by k_is) (by k_is)⟩)
    (case a_CPa => k_is)
    (case c_CPa => exact ⟨⟨by k_is, by k_is, by k_is, by k_is⟩, by k_is, by k_is⟩)
    (case n_CPa_kind => k_is)
    (case n_CPa_wait => k_is)
    (case n_CPa_years => k_is)
    (case a_CPa_init => k_is)
    (case i_CPa_init => k_is)
    (case h_CPa_init => exact ⟨_, L2.fun_mk (by k_is) (by k_is) (by k_is)⟩)
    (case a_CPa_last_time => k_is)
    (case i_CPa_last_time => k_is)
    (case h_CPa_last_time => exact ⟨_, L2.fun_mk (by k_is) (by k_is) (by k_is)⟩)
    (case a_CPa_begins_year => k_is)
    (case i_CPa_begins_year => k_is)
    (case h_CPa_begins_year => exact ⟨_, L2.fun_mk (by k_is) (by k_is) (by k_is)⟩)
    (case a_CPa_ends_year => k_is)
    (case i_CPa_ends_year => k_is)
    (case h_CPa_ends_year => exact ⟨_, L2.fun_mk (by k_is) (by k_is) (by k_is)⟩)
    (case a_CPa_in_any_case => k_is)
    (case i_CPa_in_any_case => k_is)
    (case h_CPa_in_any_case => exact ⟨_, L2.fun_mk (by k_is) (by k_is) (by k_is)⟩)
    (case a_CPa_if_there => k_is)
    (case i_CPa_if_there => k_is)
    (case h_CPa_if_there => exact ⟨_, L2.fun_mk (by k_is) (by k_is) (by k_is)⟩)
    (case a_CPa_for_its_end => k_is)
    (case i_CPa_for_its_end => k_is)
    (case h_CPa_for_its_end => exact ⟨_, L2.fun_mk (by k_is) (by k_is) (by k_is)⟩)
    (case a_CRa => k_is)
    (case c_CRa => exact ⟨⟨by k_is, by k_is, by k_is, by k_is⟩, by k_is, by k_is⟩)
    (case n_CRa_top => k_is)
    (case n_CRa_bottom => k_is)
    (case a_CRa_init => k_is)
    (case i_CRa_init => k_is)
    (case h_CRa_init => exact ⟨_, L2.fun_mk (by k_is) (by k_is) (by k_is)⟩)
    (case a_CRa_text => k_is)
    (case i_CRa_text => k_is)
    (case h_CRa_text => exact ⟨_, L2.fun_mk (by k_is) (by k_is) (by k_is)⟩)
    (case a_CPr => k_is)
    (case c_CPr => exact ⟨⟨by k_is, by k_is, by k_is, by k_is⟩, by k_is, by k_is⟩)
    (case n_CPr_status => k_is)
    (case n_CPr_scales => k_is)
    (case n_CPr_certain => k_is)
    (case n_CPr_uncertain => k_is)
    (case a_CPr_init => k_is)
    (case i_CPr_init => k_is)
    (case h_CPr_init => exact ⟨_, L2.fun_mk (by k_is) (by k_is) (by k_is)⟩)
    (case a_CPr_parts => k_is)
    (case i_CPr_parts => k_is)
    (case h_CPr_parts => exact ⟨_, L2.fun_mk (by k_is) (by k_is) (by k_is)⟩)
    (case a_CPr_parts_in_any_case => k_is)
    (case i_CPr_parts_in_any_case => k_is)
    (case h_CPr_parts_in_any_case => exact ⟨_, L2.fun_mk (by k_is) (by k_is) (by k_is)⟩)
    (case a_CPr_whole => k_is)
    (case i_CPr_whole => k_is)
    (case h_CPr_whole => exact ⟨_, L2.fun_mk (by k_is) (by k_is) (by k_is)⟩)
    (case a_CTa => k_is)
    (case c_CTa => exact ⟨⟨by k_is, by k_is, by k_is, by k_is⟩, by k_is, by k_is⟩)
    (case n_CTa_rate => k_is)
    (case n_CTa_lives => k_is)
    (case a_CTa_init => k_is)
    (case i_CTa_init => k_is)
    (case h_CTa_init => exact ⟨_, L2.fun_mk (by k_is) (by k_is) (by k_is)⟩)
    (case a_CTa_oldest => k_is)
    (case i_CTa_oldest => k_is)
    (case h_CTa_oldest => exact ⟨_, L2.fun_mk (by k_is) (by k_is) (by k_is)⟩)
    (case a_CTa_living => k_is)
    (case i_CTa_living => k_is)
    (case h_CTa_living => exact ⟨_, L2.fun_mk (by k_is) (by k_is) (by k_is)⟩)
    (case a_CCo => k_is)
    (case c_CCo => exact ⟨⟨by k_is, by k_is, by k_is, by k_is⟩, by k_is, by k_is⟩)
    (case n_CCo_status => k_is)
    (case n_CCo_payment => k_is)
    (case n_CCo_premium_payment => k_is)
    (case n_CCo_to_pay => k_is)
    (case n_CCo_to_get => k_is)
    (case n_CCo_first_to_pay => k_is)
    (case n_CCo_first_to_get => k_is)
    (case a_CCo_init => k_is)
    (case i_CCo_init => k_is)
    (case h_CCo_init => exact ⟨_, L2.fun_mk (by k_is) (by k_is) (by k_is)⟩)
    (case a_CCo_reserve_parts => k_is)
    (case i_CCo_reserve_parts => k_is)
    (case h_CCo_reserve_parts => exact ⟨_, L2.fun_mk (by k_is) (by k_is) (by k_is)⟩)
    (case a_CCo_reserve_whole => k_is)
    (case i_CCo_reserve_whole => k_is)
    (case h_CCo_reserve_whole => exact ⟨_, L2.fun_mk (by k_is) (by k_is) (by k_is)⟩)
    (case a_CCo_premium_parts => k_is)
    (case i_CCo_premium_parts => k_is)
    (case h_CCo_premium_parts => exact ⟨_, L2.fun_mk (by k_is) (by k_is) (by k_is)⟩)
    (case a_CCo_due_parts => k_is)
    (case i_CCo_due_parts => k_is)
    (case h_CCo_due_parts => exact ⟨_, L2.fun_mk (by k_is) (by k_is) (by k_is)⟩)
    (case a_CCo_ended_parts => k_is)
    (case i_CCo_ended_parts => k_is)
    (case h_CCo_ended_parts => exact ⟨_, L2.fun_mk (by k_is) (by k_is) (by k_is)⟩)
    (case a_CYe => k_is)
    (case c_CYe => exact ⟨⟨by k_is, by k_is, by k_is, by k_is⟩, by k_is, by k_is⟩)
    (case n_CYe_contracts => k_is)
    (case n_CYe_ended => k_is)
    (case n_CYe_rate_top => k_is)
    (case n_CYe_rate_bottom => k_is)
    (case a_CYe_init => k_is)
    (case i_CYe_init => k_is)
    (case h_CYe_init => exact ⟨_, L2.fun_mk (by k_is) (by k_is) (by k_is)⟩)
    (case a_CSt => k_is)
    (case c_CSt => exact ⟨⟨by k_is, by k_is, by k_is, by k_is⟩, by k_is, by k_is⟩)
    (case n_CSt_table => k_is)
    (case n_CSt_kind => k_is)
    (case n_CSt_x => k_is)
    (case n_CSt_y => k_is)
    (case a_CSt_init => k_is)
    (case i_CSt_init => k_is)
    (case h_CSt_init => exact ⟨_, L2.fun_mk (by k_is) (by k_is) (by k_is)⟩)
    (case a_CSt_ways => k_is)
    (case i_CSt_ways => k_is)
    (case h_CSt_ways => exact ⟨_, L2.fun_mk (by k_is) (by k_is) (by k_is)⟩)
    (case a_CSt_time_gone => k_is)
    (case i_CSt_time_gone => k_is)
    (case h_CSt_time_gone => exact ⟨_, L2.fun_mk (by k_is) (by k_is) (by k_is)⟩)
    (case a_CSt_demand_there => k_is)
    (case i_CSt_demand_there => k_is)
    (case h_CSt_demand_there => exact ⟨_, L2.fun_mk (by k_is) (by k_is) (by k_is)⟩)
    (case a_CRd => k_is)
    (case c_CRd => exact ⟨⟨by k_is, by k_is, by k_is, by k_is⟩, by k_is, by k_is⟩)
    (case n_CRd_calls => k_is)
    (case n_CRd_place => k_is)
    (case a_CRd_init => k_is)
    (case i_CRd_init => k_is)
    (case h_CRd_init => exact ⟨_, L2.fun_mk (by k_is) (by k_is) (by k_is)⟩)
    (case a_CRd_all_read => k_is)
    (case i_CRd_all_read => k_is)
    (case h_CRd_all_read => exact ⟨_, L2.fun_mk (by k_is) (by k_is) (by k_is)⟩)
    (case a_CRd_take_number => k_is)
    (case i_CRd_take_number => k_is)
    (case h_CRd_take_number => exact ⟨_, L2.fun_mk (by k_is) (by k_is) (by k_is)⟩)
    (case a_CRd_take_numbers => k_is)
    (case i_CRd_take_numbers => k_is)
    (case h_CRd_take_numbers => exact ⟨_, L2.fun_mk (by k_is) (by k_is) (by k_is)⟩)
    (case a_CIn => k_is)
    (case c_CIn => exact ⟨⟨by k_is, by k_is, by k_is, by k_is⟩, by k_is, by k_is⟩)
    (case n_CIn_table => k_is)
    (case a_CIn_init => k_is)
    (case i_CIn_init => k_is)
    (case h_CIn_init => exact ⟨_, L2.fun_mk (by k_is) (by k_is) (by k_is)⟩)
    (case a_CIn_carry_out => k_is)
    (case i_CIn_carry_out => k_is)
    (case h_CIn_carry_out => exact ⟨_, L2.fun_mk (by k_is) (by k_is) (by k_is)⟩)
    (case a_CIn_begin => k_is)
    (case i_CIn_begin => k_is)
    (case h_CIn_begin => exact ⟨_, L2.fun_mk (by k_is) (by k_is) (by k_is)⟩)
    (case a_CIn_tell => k_is)
    (case i_CIn_tell => k_is)
    (case h_CIn_tell => exact ⟨_, L2.fun_mk (by k_is) (by k_is) (by k_is)⟩)
    (case a_CIn_fraction => k_is)
    (case i_CIn_fraction => k_is)
    (case h_CIn_fraction => exact ⟨_, L2.fun_mk (by k_is) (by k_is) (by k_is)⟩)
    (case a_CIn_contract_fraction => k_is)
    (case i_CIn_contract_fraction => k_is)
    (case h_CIn_contract_fraction => exact ⟨_, L2.fun_mk (by k_is) (by k_is) (by k_is)⟩)
    (case a_XRe => k_is)
    (case u_XRe => k_is)
    (case h_XRe => exact ⟨_, L2.fun_mk (by k_is) (by k_is) (by k_is)⟩)
    (case r_XRe => kernel_rfl)
    (case m_XRe => exact ⟨by k_is, by k_is, by k_is, by k_is⟩)
    (case a_XTo => k_is)
    (case u_XTo => k_is)
    (case h_XTo => exact ⟨_, L2.fun_mk (by k_is) (by k_is) (by k_is)⟩)
    (case r_XTo => exact ⟨⟨by kernel_rfl, by k_is, by k_is, by k_is⟩, ⟨by k_is, by kernel_rfl, by k_is, by k_is⟩, ⟨by kernel_rfl, by k_is, by k_is, by k_is, by k_is⟩, by k_is⟩)
    (case a_XOu => k_is)
    (case u_XOu => k_is)
    (case h_XOu => exact ⟨_, L2.fun_mk (by k_is) (by k_is) (by k_is)⟩)
    (case r_XOu => exact ⟨⟨by kernel_rfl, by k_is, by k_is, by k_is⟩, ⟨by k_is, by kernel_rfl, by k_is, by k_is⟩, ⟨by kernel_rfl, by k_is, by k_is, by k_is, by k_is⟩, by k_is⟩)
    (case a_XWr => k_is)
    (case u_XWr => k_is)
    (case h_XWr => exact ⟨_, L2.fun_mk (by k_is) (by k_is) (by k_is)⟩)
    (case r_XWr => exact ⟨⟨by kernel_rfl, by k_is, by k_is, by k_is⟩, ⟨by k_is, by kernel_rfl, by k_is, by k_is⟩, ⟨by kernel_rfl, by k_is, by k_is, by k_is, by k_is⟩, by k_is⟩)
    (case v_EACH_BEGINNING => exact ⟨_, by k_is⟩)
    (case v_EACH_END => exact ⟨_, by k_is⟩)
    (case v_AFTER_ALL_YEARS => exact ⟨_, by k_is⟩)
    (case v_FOR_ITS_END => exact ⟨_, by k_is⟩)
    (case v_AFTER_ALL_YEARS_OR_FOR_ITS_END => exact ⟨_, by k_is⟩)
    (case v_RISING_FOR_ITS_END => exact ⟨_, by k_is⟩)
    (case v_IN_ANY_CASE => exact ⟨_, by k_is⟩)
    (case v_MOST_YEARS => exact ⟨_, by k_is⟩)
    (case v_TIMES => exact ⟨_, by k_is⟩)
    (case v_MOST_AGES => exact ⟨_, by k_is⟩)
    (case v_MOST_LIVES => exact ⟨_, by k_is⟩)
    (case v_GREATEST_PART => exact ⟨_, by k_is⟩)
    (case v_NEWLINE => exact ⟨_, by k_is⟩)
    (case v_SLASH => exact ⟨_, by k_is⟩)
    (case v_DIGIT_ZERO => exact ⟨_, by k_is⟩)
    (case v_DIGIT_NINE => exact ⟨_, by k_is⟩)
    (case v_MOST_CONTRACTS => exact ⟨_, by k_is⟩)
    (case v_ONE_LIFE => exact ⟨_, by k_is⟩)
    (case v_TILL_FIRST_DIES => exact ⟨_, by k_is⟩)
    (case v_TILL_LAST_DIES => exact ⟨_, by k_is⟩)
    (case v_LONGEST_TIME => exact ⟨_, by k_is⟩)
    (case v_BEGIN => exact ⟨_, by k_is⟩)
    (case v_ALIVE => exact ⟨_, by k_is⟩)
    (case v_MEAN => exact ⟨_, by k_is⟩)
    (case v_WORTH => exact ⟨_, by k_is⟩)
    (case v_PREMIUM => exact ⟨_, by k_is⟩)
    (case v_RESERVE => exact ⟨_, by k_is⟩)
    (case v_PAID => exact ⟨_, by k_is⟩)
    (case v_LONGEST_TEXT => exact ⟨_, by k_is⟩)
    (case v_LONGEST_ANSWER => exact ⟨_, by k_is⟩)
    (case z_len => k_is)
    (case z_max => k_is)
    (case z_min => k_is)
    (case z_range => k_is)
    (case z_sum => k_is)
    (case z_abs => k_is)
    (case z_str => k_is)
    (case z_enumerate => k_is)
    (case z_ord => k_is)
    (case z_Exception => k_is)
    (case a_NUMBERS => k_is)
    (case d_NUMBERS => exact ⟨_, _, by k_is, by kernel_rfl⟩)
    (case e_NUMBERS => kernel_rfl)
    (case s_digits => k_is)
    (case w_r => decide)
    (case w_t => decide)
    (case w_s => decide)
    (case w_p => decide)
    (case w_q => decide)
  case S =>
    intro K H xs a hO hwi hask hx
    cases hx with
    | cons h1 h2 =>
      cases h2
      cases h1 with
      | lst hs ha =>
        have e := L2.ints_dw a.1 _ ha
        subst e
        exact ⟨_, a.1, rfl, hs, hask, fun H' p _ hp => .lst (L2.SqL.of hp) (L2.dw_ints _)⟩
