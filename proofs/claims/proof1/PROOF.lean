import PyProof.Rows.All
import Wide.All
import OpenK.AllK
import Wide.FinOn
import PyProof.EqAt
import PyProof.EqKinds
import PyProof.TupleCall
import KE.BitLaws
import Open.SpecLaws
import KE.OsHead
import KE.OsGo
import PySem.Challenge.RW_waitchains_s01_answers
set_option Elab.async false
set_option linter.all false
set_option maxRecDepth 100000
namespace L2
open PySem PySem.Spec PyProof.Rows
/-- a key: an int or a str -/
abbrev Key := Sum Int Str
def keyIs : Key → Value → Bool
  | .inl k, v => Value.isInt k v
  | .inr x, v => Value.isStrOf x v
def keyH (w : World) : Key → Int
  | .inl k => hashInt k
  | .inr x => hashStr w x
theorem keyIs_shape : ∀ {k : Key} {v : Value}, keyIs k v = true → (∃ i t, k = Sum.inl i ∧ v = Value.int i t) ∨ (∃ x t, k = Sum.inr x ∧ v = Value.str x t)
  | .inl i, v, h => by
    obtain ⟨t, e⟩ := Value.isInt_shape (k := i) (v := v) h
    exact .inl ⟨i, t, rfl, e⟩
  | .inr x, v, h => by
    obtain ⟨t, e⟩ := Value.isStrOf_shape (x := x) (v := v) h
    exact .inr ⟨x, t, rfl, e⟩
theorem keyIs_int (i : Int) (t : Tok) : keyIs (.inl i) (.int i t) = true := by simp [keyIs, Value.isInt]
theorem keyIs_str (x : Str) (t : Tok) : keyIs (.inr x) (.str x t) = true := by simp [keyIs, Value.isStrOf]
theorem key_ll (a b : Int) : decide ((Sum.inl a : Key) = Sum.inl b) = (a == b) := by
  by_cases e : a = b
  · subst e; simp
  · have h : ¬ (Sum.inl a : Key) = Sum.inl b := fun q => e (Sum.inl.inj q)
    rw [decide_eq_false h]
    exact (beq_eq_false_iff_ne.mpr e).symm
theorem key_rr (a b : Str) : decide ((Sum.inr a : Key) = Sum.inr b) = decide (a = b) := by
  by_cases e : a = b
  · subst e; simp
  · have h : ¬ (Sum.inr a : Key) = Sum.inr b := fun q => e (Sum.inr.inj q)
    rw [decide_eq_false h, decide_eq_false e]
theorem key_lr (a : Int) (b : Str) : decide ((Sum.inl a : Key) = Sum.inr b) = false := decide_eq_false (fun q => nomatch q)
theorem key_rl (a : Str) (b : Int) : decide ((Sum.inr a : Key) = Sum.inl b) = false := decide_eq_false (fun q => nomatch q)
def mixKind (prog : Program) (w : World) : PySem.KeyKind prog w Key where
  is := keyIs
  hash := keyH w
  inj := fun v a b ha hb => by
    rcases keyIs_shape ha with ⟨i, t, rfl, rfl⟩ | ⟨x, t, rfl, rfl⟩
    · rcases keyIs_shape hb with ⟨j, u, rfl, e⟩ | ⟨y, u, rfl, e⟩
      · injection e with e1 _; rw [e1]
      · exact nomatch e
    · rcases keyIs_shape hb with ⟨j, u, rfl, e⟩ | ⟨y, u, rfl, e⟩
      · exact nomatch e
      · injection e with e1 _; rw [e1]
  byValue := fun k v h => by
    rcases keyIs_shape h with ⟨i, t, rfl, rfl⟩ | ⟨x, t, rfl, rfl⟩ <;> rfl
  pyHash := fun hv h => by
    rcases keyIs_shape hv with ⟨i, t, rfl, rfl⟩ | ⟨x, t, rfl, rfl⟩
    · exact wpAny_pyHash_int h
    · exact wpAny_pyHash_str h
  eqBool := fun hu hv h => by
    rcases keyIs_shape hu with ⟨i, t, rfl, rfl⟩ | ⟨x, t, rfl, rfl⟩
    · rcases keyIs_shape hv with ⟨j, u, rfl, rfl⟩ | ⟨y, u, rfl, rfl⟩
      · rw [key_ll] at h; exact wpAny_eqBool_int h
      · rw [key_lr] at h; exact SeqAt.EqAt.int_str i t y u _ _ _ _ h
    · rcases keyIs_shape hv with ⟨j, u, rfl, rfl⟩ | ⟨y, u, rfl, rfl⟩
      · rw [key_rl] at h; exact SeqAt.EqAt.str_int x t j u _ _ _ _ h
      · rw [key_rr] at h; exact wpAny_eqBool_str h
  «strs» := fun k x t v h => by
    rcases keyIs_shape h with ⟨i, u, rfl, e⟩ | ⟨y, u, rfl, e⟩
    · exact nomatch e
    · injection e with e1 _
      subst e1
      cases v <;> rfl
theorem mixKind_int (prog : Program) (w : World) (i : Int) (t : Tok) : (mixKind prog w).is (.inl i) (.int i t) = true := keyIs_int i t
theorem mixKind_str (prog : Program) (w : World) (x : Str) (t : Tok) : (mixKind prog w).is (.inr x) (.str x t) = true := keyIs_str x t
end L2
namespace L2
open PySem PySem.Spec PyProof.Rows
/-- a value, without the heap -/
inductive V where
  | non | bl (b : Bool) | int (i : Int) | str (x : Str) | byt (b : Array UInt8) | flt (b : UInt64) | ref (a : Addr) | ty (n : String)
  deriving DecidableEq
def RelV : V → Value → Prop
  | .non, u => u = Value.none
  | .bl b, u => u = Value.bool b
  | .int i, u => ∃ t, u = Value.int i t
  | .str x, u => ∃ t, u = Value.str x t
  | .byt b, u => ∃ t, u = Value.bytes b t
  | .flt b, u => ∃ t, u = Value.float b t
  | .ref a, u => u = Value.ref a
  | .ty n, u => u = Value.type n
abbrev Vals : List V → List Value → Prop := Paired RelV
theorem Vals.length {xs : List V} {us : List Value} (r : Vals xs us) : xs.length = us.length := Paired.length r
theorem Vals.get : ∀ {xs : List V} {us : List Value} {i : Nat} {x : V}, Vals xs us → xs[i]? = some x → ∃ u, us[i]? = some u ∧ RelV x u
  | _, _, _, _, .nil, e => by simp at e
  | _, _, 0, _, .cons r _, e => by simp at e; subst e; exact ⟨_, rfl, r⟩
  | _, _, i + 1, x, .cons _ t, e => by
    obtain ⟨u, h1, h2⟩ := Vals.get (i := i) (x := x) t (by simpa using e)
    exact ⟨u, by simpa using h1, h2⟩
theorem Vals.set {x : V} {u : Value} (r : RelV x u) : ∀ {xs : List V} {us : List Value} (i : Nat), Vals xs us → Vals (xs.set i x) (us.set i u)
  | _, _, _, .nil => .nil
  | _, _, 0, .cons _ t => .cons r t
  | _, _, i + 1, .cons q t => .cons q (Vals.set r i t)
theorem Vals.append : ∀ {xs ys : List V} {us ws : List Value}, Vals xs us → Vals ys ws → Vals (xs ++ ys) (us ++ ws)
  | _, _, _, _, .nil, s => s
  | _, _, _, _, .cons r t, s => .cons r (Vals.append t s)
theorem Vals.take : ∀ {xs : List V} {us : List Value} (n : Nat), Vals xs us → Vals (xs.take n) (us.take n)
  | _, _, 0, _ => .nil
  | _, _, _ + 1, .nil => .nil
  | _, _, n + 1, .cons r t => .cons r (Vals.take n t)
theorem Vals.drop : ∀ {xs : List V} {us : List Value} (n : Nat), Vals xs us → Vals (xs.drop n) (us.drop n)
  | _, _, 0, r => r
  | _, _, _ + 1, .nil => .nil
  | _, _, n + 1, .cons _ t => Vals.drop n t
def RelO : Option V → Option Value → Prop
  | some v, some u => RelV v u
  | none, none => True
  | _, _ => False
def KV {κ : Type} : List (κ × V) → List (κ × Value) → Prop := Paired fun (p : κ × V) (q : κ × Value) => p.1 = q.1 ∧ RelV p.2 q.2
/-- a key of a dict (00_mix): an int or a text -/
def kV : Key → V
  | .inl i => .int i
  | .inr x => .str x
/-- what stands at a tracked address -/
inductive HO where
  /-- a list -/
  | lst (xs : List V)
  /-- a tuple (never changes) -/
  | tup (xs : List V)
  /-- a dict whose keys are ints and texts; one whose keys are tuples of ints and texts (the empty one is both) -/
  | dK (kvs : List (Key × V)) | dT (kvs : List (List Key × V))
  /-- a set of ints: its members, its size -/
  | set (S : Int → Bool) (n : Nat)
  /-- an instance of the class at C, its dict at dx, its attributes -/
  | ins (C dx : Addr) (fs : List (Str × V))
  /-- the dict of the instance at x -/
  | own (x : Addr)
  /-- the dict of an exception -/
  | xd (fs : List (Str × V))
  /-- a bound method, f of x -/
  | met (f x : Addr)
  /-- a range object lo, lo + 1, .. below hi -/
  | rng (lo hi : Int)
  /-- a thing that is known to the object (the script; a dict while a loop walks it): read, never written while it is so -/
  | frz (o : Obj) (u : HO)
  /-- a code object's table -/
  | tbl (ps : Array Value)
  /-- any other thing, by what is true of its one object (a def of one's own: SetO a S n := HO.ext fun h => ..) -/
  | ext (φ : Heap → Prop)
abbrev Hp := Addr → Option HO
def upd (H : Hp) (a : Addr) (o : HO) : Hp := fun b => if b = a then some o else H b
theorem upd_same {H : Hp} {a : Addr} {o : HO} : upd H a o a = some o := by unfold upd; rw [if_pos rfl]
theorem upd_ne {H : Hp} {a b : Addr} {o : HO} (h : b ≠ a) : upd H a o b = H b := by unfold upd; rw [if_neg h]
theorem upd_upd {H : Hp} {a : Addr} {o u : HO} : upd (upd H a o) a u = upd H a u := by
  funext b; unfold upd; split <;> rfl
/-- two objects of different content stand apart -/
theorem ne_of {H : Hp} {a b : Addr} {o u : HO} (h : H a = some o) (h' : H b = some u) (d : o ≠ u) : a ≠ b := by
  intro e; subst e; rw [h] at h'; exact d (Option.some.inj h')
theorem ne_of_none {H : Hp} {a b : Addr} {o : HO} (h : H a = some o) (h' : H b = none) : a ≠ b := by
  intro e; subst e; rw [h] at h'; cases h'
section
variable (P : Program) (w : World)
def ObjOk (H : Hp) (h : Heap) (a : Addr) : HO → Prop
  | .lst xs => xs.length ≤ sizeLine ∧ ∃ (its : List Value) (n : Nat), Vals xs its ∧ h.get? a = some { cls := .type "list", data := .seq its.toArray n }
  | .tup xs => xs.length ≤ sizeLine ∧ ∃ its : List Value, Vals xs its ∧ IsTup h a its.toArray
  | .dK kvs => kvs.length ≤ sizeLine ∧ (a == sysModules) = false ∧ ∃ vs, KV kvs vs ∧ h.DictOf (mixKind P w) a vs
  | .dT kvs => kvs.length ≤ sizeLine ∧ (a == sysModules) = false ∧ ∃ xs : List (List Key × Addr × Value),
      Paired (fun (p : List Key × V) (q : List Key × Addr × Value) => p.1 = q.1 ∧ H q.2.1 = some (.tup (p.1.map kV)) ∧ RelV p.2 q.2.2) kvs xs ∧
      ∃ o es ep, h.get? a = some o ∧ o.ExactDict ∧ o.data = .dict es ep ∧ es.toList = xs.map (entryOfKey (tupleKind (mixKind P w))) ∧ (xs.map (·.1)).Nodup
  | .set S n => h.SetOf (intKind P w) a S n
  | .ins C dx fs => H dx = some (.own a) ∧ fs.length ≤ 1000 ∧ dx ≠ a ∧ h.get? a = some (PySem.W.instObj C dx) ∧
      ∃ mA, h.Ns1 dx mA ∧ (∀ f, RelO (fs.lookup f) (mA f)) ∧ PySem.Within mA (fs.map (·.1))
  | .own _ => ∃ o, h.get? a = some o
  | .xd fs => ∃ mA, h.Ns1 a mA ∧ ∀ f, RelO (fs.lookup f) (mA f)
  | .rng lo hi => ∃ t u v, h.get? a = some { cls := .type "range", data := .fields #[.int lo t, .int hi u, .int 1 v] }
  | .frz o u => h.get? a = some o ∧ ObjOk H h a u
  | .tbl ps => h.get? a = some { cls := .none, data := .fields ps }
  | .met f x => h.get? a = some (PySem.W.methodObj (.ref f) (.ref x))
  | .ext φ => φ h ∧ (∃ o, h.get? a = some o) ∧ ∀ h1 h2 : Heap, φ h1 → (∀ o, h1.get? a = some o → h2.get? a = some o) → φ h2
/-- the abstract heap is held -/
def HOk (H : Hp) (h : Heap) : Prop := ∀ a o, H a = some o → ObjOk P w H h a o
end
section
variable {P : Program} {w : World} {H H' : Hp} {h h' : Heap} {a : Addr} {o : HO}
theorem ObjOk.lt (x : ObjOk P w H h a o) : a < h.objs.size := by
  cases o with
  | lst xs => obtain ⟨_, _, _, _, e⟩ := x; exact Heap.lt_size e
  | tup xs => obtain ⟨_, _, _, p⟩ := x; exact p.lt
  | dK kvs => obtain ⟨_, _, _, _, o, _, _, e, _⟩ := x; exact Heap.lt_size e
  | dT kvs => obtain ⟨_, _, _, _, o, _, _, e, _⟩ := x; exact Heap.lt_size e
  | set S n => obtain ⟨o, _, _, _, e, _⟩ := x; exact Heap.lt_size e
  | ins C dx fs => obtain ⟨_, _, _, e, _⟩ := x; exact Heap.lt_size e
  | own y => obtain ⟨_, e⟩ := x; exact Heap.lt_size e
  | xd fs => obtain ⟨_, ⟨_, _, _, e, _⟩, _⟩ := x; exact Heap.lt_size e
  | rng lo hi => obtain ⟨_, _, _, e⟩ := x; exact Heap.lt_size e
  | frz ob u => obtain ⟨e, _⟩ := x; exact Heap.lt_size e
  | tbl ps => exact Heap.lt_size (show h.get? a = some _ from x)
  | met f y => exact Heap.lt_size (show h.get? a = some _ from x)
  | ext φ => obtain ⟨_, ⟨_, e⟩, _⟩ := x; exact Heap.lt_size e
theorem Paired.mapP {α β : Type} {F G : α → β → Prop} : ∀ {l₁ : List α} {l₂ : List β}, Paired F l₁ l₂ → (∀ a b, F a b → G a b) → Paired G l₁ l₂
  | _, _, .nil, _ => .nil
  | _, _, .cons r t, f => .cons (f _ _ r) (Paired.mapP t f)
/-- what an object's description leans on: its own object, its own dict, the tuples -/
theorem ObjOk.stay (x : ObjOk P w H h a o) (k : ∀ b u, (b = a ∨ H b = some (.own a)) → h.get? b = some u → h'.get? b = some u)
    (ho : ∀ b, H b = some (.own a) → H' b = some (.own a)) (ht : ∀ b xs, H b = some (.tup xs) → H' b = some (.tup xs)) : ObjOk P w H' h' a o := by
  induction o with
  | lst xs => obtain ⟨z, its, n, r, e⟩ := x; exact ⟨z, its, n, r, k _ _ (.inl rfl) e⟩
  | tup xs => obtain ⟨z, its, r, ob, e, c⟩ := x; exact ⟨z, its, r, ob, k _ _ (.inl rfl) e, c⟩
  | dK kvs => obtain ⟨z, y, vs, r, ob, es, ep, e, c⟩ := x; exact ⟨z, y, vs, r, ob, es, ep, k _ _ (.inl rfl) e, c⟩
  | dT kvs =>
    obtain ⟨z, y, xs, r, ob, es, ep, e, c⟩ := x
    exact ⟨z, y, xs, Paired.mapP r fun p q z => ⟨z.1, ht _ _ z.2.1, z.2.2⟩, ob, es, ep, k _ _ (.inl rfl) e, c⟩
  | set S n => obtain ⟨ob, es, ep, t, e, c⟩ := x; exact ⟨ob, es, ep, t, k _ _ (.inl rfl) e, c⟩
  | ins C dx fs =>
    obtain ⟨d, z, ne, e, mA, ⟨od, es, ep, e2, c⟩, r⟩ := x
    exact ⟨ho _ d, z, ne, k _ _ (.inl rfl) e, mA, ⟨od, es, ep, k _ _ (.inr d) e2, c⟩, r⟩
  | own y => obtain ⟨ob, e⟩ := x; exact ⟨ob, k _ _ (.inl rfl) e⟩
  | xd fs => obtain ⟨mA, ⟨od, es, ep, e, c⟩, r⟩ := x; exact ⟨mA, ⟨od, es, ep, k _ _ (.inl rfl) e, c⟩, r⟩
  | rng lo hi => obtain ⟨t, u, v, e⟩ := x; exact ⟨t, u, v, k _ _ (.inl rfl) e⟩
  | frz ob u ih => obtain ⟨e, q⟩ := x; exact ⟨k _ _ (.inl rfl) e, ih q⟩
  | tbl ps =>
    have e : h.get? a = some { cls := .none, data := .fields ps } := x
    show h'.get? a = some { cls := .none, data := .fields ps }
    exact k a _ (.inl rfl) e
  | met f y =>
    have e : h.get? a = some (PySem.W.methodObj (.ref f) (.ref y)) := x
    show h'.get? a = some (PySem.W.methodObj (.ref f) (.ref y))
    exact k a _ (.inl rfl) e
  | ext φ => obtain ⟨p, ⟨o, e⟩, st⟩ := x; exact ⟨st _ _ p fun o q => k _ _ (.inl rfl) q, ⟨o, k _ _ (.inl rfl) e⟩, st⟩
theorem HOk.lt (x : HOk P w H h) (e : H a = some o) : a < h.objs.size := (x a o e).lt
theorem HOk.fresh (x : HOk P w H h) (e : h.objs.size ≤ a) : H a = none := by
  cases q : H a with
  | none => rfl
  | some u => exact absurd (Nat.lt_of_lt_of_le (x.lt q) e) (Nat.lt_irrefl _)
/-- every object of the heap is kept -/
theorem HOk.kept (x : HOk P w H h) (k : ∀ b u, h.get? b = some u → h'.get? b = some u) : HOk P w H h' := fun a o e =>
  (x a o e).stay (fun b u _ q => k b u q) (fun _ q => q) fun _ _ q => q
/-- a new object is laid and tracked -/
theorem HOk.laid (x : HOk P w H h) (k : ∀ b u, h.get? b = some u → h'.get? b = some u) (hp : h.objs.size ≤ a) (new : ObjOk P w (upd H a o) h' a o) : HOk P w (upd H a o) h' := fun b u e => by
  have hn := x.fresh hp
  by_cases hb : b = a
  · subst hb; rw [upd_same] at e; cases e; exact new
  · rw [upd_ne hb] at e
    exact (x b u e).stay (fun c v _ q => k c v q) (fun c q => by rw [upd_ne (ne_of_none q hn)]; exact q) fun c xs q => by rw [upd_ne (ne_of_none q hn)]; exact q
end
/-- what may be read as u: it is u, or a known u -/
def Rd (H : Hp) (a : Addr) (u : HO) : Prop := H a = some u ∨ ∃ o, H a = some (.frz o u)
theorem Rd.of {H : Hp} {a : Addr} {u : HO} (h : H a = some u) : Rd H a u := .inl h
theorem Rd.ok {P : Program} {w : World} {H : Hp} {h : Heap} {a : Addr} {u : HO} (r : Rd H a u) (x : HOk P w H h) : ObjOk P w H h a u := by
  rcases r with r | ⟨o, r⟩
  · exact x a u r
  · obtain ⟨_, q⟩ := x a _ r
    exact q
/-- what may be written -/
def Mut : Option HO → Prop
  | some (.lst _) => True
  | some (.dK _) => True
  | some (.dT _) => True
  | some (.set _ _) => True
  | some (.ins _ _ _) => True
  | some (.ext _) => True
  | _ => False
section
variable {P : Program} {w : World} {H : Hp} {h h' : Heap} {x e : Addr} {o' : HO}
/-- the object at e is changed: x itself, or the dict of the instance x -/
theorem HOk.write (ok : HOk P w H h) (mu : Mut (H x)) (he : e = x ∨ H e = some (.own x)) (k : ∀ b u, b ≠ e → h.get? b = some u → h'.get? b = some u) (heo : ∃ u, h'.get? e = some u)
    (new : ObjOk P w (upd H x o') h' x o') : HOk P w (upd H x o') h' := fun b u q => by
  have nown : ∀ c y, H c = some (.own y) → c ≠ x := fun c y r z => by subst z; rw [r] at mu; exact mu
  have ntup : ∀ c xs, H c = some (.tup xs) → c ≠ x := fun c xs r z => by subst z; rw [r] at mu; exact mu
  by_cases hb : b = x
  · subst hb; rw [upd_same] at q; cases q; exact new
  · rw [upd_ne hb] at q
    by_cases hbe : b = e
    · have q' : H b = some (.own x) := by
        rcases he with z | z
        · exact absurd (hbe.trans z) hb
        · rw [hbe]; exact z
      rw [q] at q'; cases q'
      obtain ⟨v, hv⟩ := heo
      exact ⟨v, by rw [hbe]; exact hv⟩
    · refine (ok b u q).stay (fun c v hc r => k c v ?_ r) (fun c r => by rw [upd_ne (nown c b r)]; exact r) fun c xs r => by rw [upd_ne (ntup c xs r)]; exact r
      rcases hc with rfl | hc
      · exact hbe
      · rintro rfl
        rcases he with z | z
        · exact nown c b hc z
        · rw [hc] at z; cases z; exact hb rfl
end
structure Un (fs ex : List Addr) (H H' : Hp) (h h' : Heap) : Prop where
  keep : ∀ b o, h.get? b = some o → H b = none → b ∉ fs → b ∉ ex → h'.get? b = some o
  slot : ∀ b o, h.get? b = some o → H b = none → b ∈ fs → b ∉ ex → ∃ sl, h'.get? b = some { o with slots := sl }
  free : ∀ b o, h.get? b = some o → H b = none → b ∉ ex → H' b = none
  there : ∀ b o, h.get? b = some o → b ∉ ex → ∃ o', h'.get? b = some o'
  tups : ∀ b xs, H b = some (.tup xs) → H' b = some (.tup xs)
  frzs : ∀ b o u, H b = some (.frz o u) → H' b = some (.frz o u)
  tbls : ∀ b ps, H b = some (.tbl ps) → ∃ more, H' b = some (.tbl (ps ++ more))
section
variable {fs fs' ex ex' : List Addr} {H H1 H2 : Hp} {h h1 h2 h' : Heap} {a x e : Addr} {o : HO}
theorem Un.any (u : Un fs ex H H1 h h1) {b : Addr} {ob : Obj} (q : h.get? b = some ob) (n : H b = none) (hx : b ∉ ex) : ∃ sl, h1.get? b = some { ob with slots := sl } := by
  by_cases hb : b ∈ fs
  · exact u.slot b ob q n hb hx
  · exact ⟨ob.slots, u.keep b ob q n hb hx⟩
theorem Un.trans (a : Un fs ex H H1 h h1) (b : Un fs ex H1 H2 h1 h2) : Un fs ex H H2 h h2 where
  keep := fun c ob q n hc hx => b.keep c ob (a.keep c ob q n hc hx) (a.free c ob q n hx) hc hx
  slot := fun c ob q n hc hx => by
    obtain ⟨sl, e1⟩ := a.slot c ob q n hc hx
    obtain ⟨sl', e2⟩ := b.slot c _ e1 (a.free c ob q n hx) hc hx
    exact ⟨sl', e2⟩
  free := fun c ob q n hx => by
    obtain ⟨o', e1⟩ := a.there c ob q hx
    exact b.free c o' e1 (a.free c ob q n hx) hx
  there := fun c ob q hx => by
    obtain ⟨o', e1⟩ := a.there c ob q hx
    exact b.there c o' e1 hx
  tups := fun c xs q => b.tups c xs (a.tups c xs q)
  frzs := fun c ob xs q => b.frzs c ob xs (a.frzs c ob xs q)
  tbls := fun c ps q => by
    obtain ⟨m1, e1⟩ := a.tbls c ps q
    obtain ⟨m2, e2⟩ := b.tbls c _ e1
    exact ⟨m1 ++ m2, by rw [e2, Array.append_assoc]⟩
theorem Un.kept (k : ∀ b u, h.get? b = some u → h'.get? b = some u) : Un fs ex H H h h' :=
  ⟨fun b ob q _ _ _ => k b ob q, fun b ob q _ _ _ => ⟨ob.slots, k b ob q⟩, fun _ _ _ n _ => n, fun b ob q _ => ⟨ob, k b ob q⟩, fun _ _ q => q, fun _ _ _ q => q, fun _ ps q => ⟨#[], by rw [q]; simp⟩⟩
theorem Un.refl : Un fs ex H H h h := Un.kept fun _ _ q => q
theorem Un.laid (k : ∀ b u, h.get? b = some u → h'.get? b = some u) (hp : h.objs.size ≤ a) (hn : H a = none) : Un fs ex H (upd H a o) h h' where
  keep := fun b u q _ _ _ => k b u q
  slot := fun b u q _ _ _ => ⟨u.slots, k b u q⟩
  free := fun b u q n _ => by rw [upd_ne (Nat.ne_of_lt (Nat.lt_of_lt_of_le (Heap.lt_size q) hp))]; exact n
  there := fun b u q _ => ⟨u, k b u q⟩
  tups := fun b xs q => by rw [upd_ne (ne_of_none q hn)]; exact q
  frzs := fun b u xs q => by rw [upd_ne (ne_of_none q hn)]; exact q
  tbls := fun b ps q => ⟨#[], by rw [upd_ne (ne_of_none q hn), q]; simp⟩
theorem Un.write (mu : Mut (H x)) (he : e = x ∨ H e = some (.own x)) (k : ∀ b u, b ≠ e → h.get? b = some u → h'.get? b = some u) (heo : ∃ u, h'.get? e = some u) : Un fs ex H (upd H x o) h h' := by
  have hx : ∀ b, H b = none → b ≠ x := fun b n z => by subst z; rw [n] at mu; exact mu
  have hb : ∀ b, H b = none → b ≠ e := fun b n z => by
    subst z
    rcases he with r | r
    · exact hx b n r
    · rw [n] at r; cases r
  have hm : ∀ b u, H b = some u → ¬ Mut (some u) → b ≠ x := fun b u q nm z => by subst z; rw [q] at mu; exact nm mu
  refine ⟨fun b u q n _ _ => k b u (hb b n) q, fun b u q n _ _ => ⟨u.slots, k b u (hb b n) q⟩, fun b u q n _ => by rw [upd_ne (hx b n)]; exact n, fun b u q _ => ?_,
    fun b xs q => by rw [upd_ne (hm b _ q fun z => z)]; exact q, fun b u xs q => by rw [upd_ne (hm b _ q fun z => z)]; exact q, fun b ps q => ⟨#[], by rw [upd_ne (hm b _ q fun z => z), q]; simp⟩⟩
  by_cases hbe : b = e
  · subst hbe; exact heo
  · exact ⟨u, k b u hbe q⟩
theorem Un.mono (u : Un fs ex H H1 h h1) (hs : ∀ b ∈ fs, b ∈ fs') (hx : ∀ b ∈ ex, b ∈ ex') : Un fs' ex' H H1 h h1 :=
  ⟨fun b ob q n hb he => u.keep b ob q n (fun z => hb (hs b z)) fun z => he (hx b z), fun _ _ q n _ he => u.any q n fun z => he (hx _ z), fun b ob q n he => u.free b ob q n fun z => he (hx b z), fun b ob q he => u.there b ob q fun z => he (hx b z), u.tups, u.frzs, u.tbls⟩
end
def trk (h : Heap) (H : Hp) : List Addr := (List.range h.objs.size).filter fun a => (H a).isSome
def hidT (h : Heap) (H : Hp) : Heap := PySem.W.hideAll h (trk h H)
theorem hidT_size (h : Heap) (H : Hp) : (hidT h H).objs.size = h.objs.size := PySem.W.hideAll_size _ _
theorem hidT_get {h : Heap} {H : Hp} {b : Addr} {o : Obj} (e : h.get? b = some o) (n : H b = none) : (hidT h H).get? b = some o :=
  PySem.W.hideAll_get _ e fun hm => by
    have q : (H b).isSome = true := (List.mem_filter.mp hm).2
    rw [n] at q; simp at q
theorem of_hidT {h : Heap} {H : Hp} {b : Addr} {o : Obj} (e : (hidT h H).get? b = some o) : h.get? b = some o ∧ H b = none := by
  have e' : h.get? b = some o := PySem.W.of_hideAll (trk h H) e
  refine ⟨e', ?_⟩
  cases q : H b with
  | none => rfl
  | some x =>
    have hm : b ∈ trk h H := List.mem_filter.mpr ⟨List.mem_range.mpr (Heap.lt_size e'), by simp [q]⟩
    have z : (hidT h H).get? b = none := PySem.W.hideAll_none (trk h H) hm
    rw [z] at e; cases e
def allNews (g h : Heap) (L : Addr) : List (Addr × Obj) := (List.range h.objs.size).filterMap fun a => if a = L ∨ (g.get? a).isSome = true then none else (h.get? a).map fun o => (a, o)
def rest (g h : Heap) (L d : Addr) : List (Addr × Obj) := (allNews g h L).filter fun p => decide (p.1 ≠ d)
end L2
namespace L2
open PySem PySem.Spec PyProof.Rows
/-- the module's facts, over the base: the heap at the law's entry without what is tracked there -/
structure Mod (K : PySem.W.Frag) (mg : Str → Option Value) (base : Heap) : Prop where
  kin : K.In base
  glob : base.Ns mainGlobals mg
  blt : ∃ mb, base.Ns builtinsNs mb ∧ ∀ x : Str, x ≠ "__name__" → mb x = bootBuiltins x
  nolimit : base.NoLimit
/-- the context: a def's body (or a comprehension's block) running. base: fixed through the whole law; s₀, H₀: the entry; outer: the frames whose slots others may change (a def's callers); stack: all frames that run;
   ex: iterators that were made ahead of the entry and are walked here (a comprehension's); fn: the names whose cells were made at the entry (a def: all; a comprehension's block: its own); calm: not within an except suite; pn: pins that every state bears; xe: what is wanted of an exception that leaves the code -/
structure Cx where
  prog : Program
  w : World
  K : PySem.W.Frag
  mg : Str → Option Value
  base : Heap
  A : Around
  N : List Str
  s_0 : Shared
  H_0 : Hp
  env : Env
  outer : List Env
  stack : List Env
  ex : List Addr
  fn : Str → Bool
  calm : Bool
  pn : List (Addr × Obj)
  xe : Value → Shared → Prop
/-- the callers' frames -/
def frs (l : List Env) : List Addr := l.filterMap (·.frame)
abbrev Cx.fs (X : Cx) : List Addr := frs X.outer
def Vis (sc : Scope) (x : Str) : Prop := sc.names.lookup x = some .local ∨ sc.names.lookup x = some .cell ∨ sc.names.lookup x = some .free
def Loc (sc : Scope) (x : Str) : Prop := sc.names.lookup x = some .local ∨ sc.names.lookup x = some .cell
def Look (env : Env) (h : Heap) (m : Str → Option Value) (x : Str) (u : Value) : Prop :=
  (env.kindOf x = some .local ∧ m x = some u) ∨ ((env.kindOf x = some .cell ∨ env.kindOf x = some .free) ∧ ∃ c, env.cells.lookup x = some c ∧ h.IsCell c (some u))
structure Cx.Ok (X : Cx) : Prop where
  mod : Mod X.K X.mg X.base
  kind : X.env.scope.kind = .function
  glob : X.env.globals = mainGlobals
  blt : X.env.builtins = builtinsNs
  above : X.s_0.heap.objs.size ≤ X.env.locals
  inj : ∀ x y c, X.env.cells.lookup x = some c → X.env.cells.lookup y = some c → x = y
  has : ∀ x, (X.env.kindOf x = some .cell ∨ X.env.kindOf x = some .free) → ∃ c, X.env.cells.lookup x = some c
  cab : ∀ x c, X.fn x = true → X.env.cells.lookup x = some c → X.s_0.heap.objs.size ≤ c
  hd : X.calm = true → X.A.handled = none
  frames : X.A.frames = some X.stack
  stk : X.stack = X.outer ∨ (X.stack = X.env :: X.outer ∧ X.env.frame = some X.env.locals)
  exf : ∀ b ∈ X.ex, b ≠ X.env.locals ∧ ∀ x c, X.env.cells.lookup x = some c → c ≠ b
  bs : ∀ b o, X.base.get? b = some o → X.s_0.heap.get? b = some o ∧ X.H_0 b = none
  bsz : X.base.objs.size ≤ X.s_0.heap.objs.size
  noex : ∀ b o, X.base.get? b = some o → b ∉ X.ex
  exfs : ∀ b ∈ X.ex, b ∉ X.fs
  funs : X.s_0.heap.FunFrames X.base X.outer
  frf : ∀ b ∈ X.fs, X.H_0 b = none
structure Inv (X : Cx) (pins : List (Addr × Obj)) (σ : List (Option V)) (H : Hp) (s : Shared) : Prop where
  ok : X.Ok
  os : s.os = X.s_0.os
  bare : AllBare s.gens
  base : Un X.fs X.ex X.H_0 H X.s_0.heap s.heap
  loc : ∃ m, s.heap.Ns X.env.locals m ∧ ∀ (i : Nat) (x : Str) (v : V), X.N[i]? = some x → σ[i]? = some (some v) → Vis X.env.scope x → ∃ u, RelV v u ∧ Look X.env s.heap m x u
  cell : ∀ x c, X.env.cells.lookup x = some c → ∃ v, s.heap.IsCell c v
  free : H X.env.locals = none
  freeC : ∀ x c, X.env.cells.lookup x = some c → H c = none
  pin : ∀ p ∈ X.pn ++ pins, s.heap.get? p.1 = some p.2 ∧ H p.1 = none ∧ p.1 ≠ X.env.locals ∧ p.1 ∉ X.fs ∧ ∀ v, p.2.data ≠ .cell v
  hok : HOk X.prog X.w H s.heap
  len : σ.length = X.N.length
section
variable {X : Cx} {pins : List (Addr × Obj)} {σ : List (Option V)} {H H' : Hp} {s : Shared} {h' : Heap}
theorem Cx.Ok.nofr (ok : X.Ok) {b : Addr} {o : Obj} (e : X.base.get? b = some o) : b ∉ X.fs := fun hb => by
  have := (ok.funs.mem hb).1
  rw [e] at this; cases this
theorem Inv.bs (I : Inv X pins σ H s) : ∀ b o, X.base.get? b = some o → s.heap.get? b = some o ∧ H b = none := fun b o e =>
  ⟨I.base.keep b o (I.ok.bs b o e).1 (I.ok.bs b o e).2 (I.ok.nofr e) (I.ok.noex b o e), I.base.free b o (I.ok.bs b o e).1 (I.ok.bs b o e).2 (I.ok.noex b o e)⟩
theorem Inv.bk (I : Inv X pins σ H s) : ∀ b o, X.base.get? b = some o → s.heap.get? b = some o := fun b o e => (I.bs b o e).1
theorem Inv.mod (I : Inv X pins σ H s) : Mod X.K X.mg X.base := I.ok.mod
theorem Inv.kIn (I : Inv X pins σ H s) : X.K.In s.heap := I.ok.mod.kin.keeps I.bk
theorem Inv.nolimit (I : Inv X pins σ H s) : s.heap.NoLimit := I.ok.mod.nolimit.keeps I.bk
/-- the frame over the base: for OpenK's rules (K.In X.base is I.mod.kin) -/
theorem Inv.fr (I : Inv X pins σ H s) : ∃ m, Fr X.base X.env.locals s.heap m :=
  let ⟨m, hn, _⟩ := I.loc
  ⟨m, hn, I.bk, Nat.le_trans I.ok.bsz I.ok.above⟩
theorem Inv.lt (I : Inv X pins σ H s) : X.env.locals < s.heap.objs.size := let ⟨_, hn, _⟩ := I.loc; hn.lt
theorem Inv.sz (I : Inv X pins σ H s) : X.s_0.heap.objs.size ≤ s.heap.objs.size := Nat.le_trans I.ok.above (Nat.le_of_lt I.lt)
theorem Inv.nofs (I : Inv X pins σ H s) {a : Addr} (h : s.heap.objs.size ≤ a) : a ∉ X.fs := fun hb => by
  obtain ⟨_, o, ho, _⟩ := I.ok.funs.mem hb
  exact absurd (Nat.lt_of_lt_of_le (Heap.lt_size ho) (Nat.le_trans I.sz h)) (Nat.lt_irrefl _)
theorem Inv.cne (I : Inv X pins σ H s) : ∀ x c, X.env.cells.lookup x = some c → c ≠ X.env.locals := fun x c e z => by
  obtain ⟨v, o, ho, hd⟩ := I.cell x c e
  obtain ⟨m, ⟨o', es, ep, ho', hd', _⟩, _⟩ := I.loc
  rw [z, ho'] at ho; cases ho; rw [hd'] at hd; cases hd
theorem Inv.funs (I : Inv X pins σ H s) : s.heap.FunFrames X.base X.outer := by
  have all : ∀ (l : List Env), (∀ b ∈ frs l, b ∈ X.fs) → X.s_0.heap.FunFrames X.base l → s.heap.FunFrames X.base l := by
    intro l
    induction l with
    | nil => intro _ _; trivial
    | cons env r ih =>
      intro hs hl
      obtain ⟨hk, ⟨L, o, hf, hn, ho, hd⟩, hr⟩ := hl
      have hL : L ∈ X.fs := hs L (by unfold frs; rw [List.filterMap_cons, hf]; exact List.mem_cons_self)
      obtain ⟨sl, e⟩ := I.base.slot L o ho (I.ok.frf L hL) hL fun z => I.ok.exfs L z hL
      exact ⟨hk, ⟨L, _, hf, hn, e, hd⟩, ih (fun b hb => hs b (by unfold frs; rw [List.filterMap_cons, hf]; exact List.mem_cons_of_mem _ hb)) hr⟩
  exact all X.outer (fun _ hb => hb) I.ok.funs
/-- the frames that run, for a call -/
theorem Inv.stack (I : Inv X pins σ H s) : s.heap.FunFrames X.base X.stack := by
  rcases I.ok.stk with e | ⟨e, hf⟩
  · rw [e]; exact I.funs
  · rw [e]
    obtain ⟨m, hn, _⟩ := I.loc
    refine .cons (by rw [I.ok.kind]; decide) hf hn ?_ I.funs
    exact Heap.get?_none_of_le (Nat.le_trans I.ok.bsz I.ok.above)
theorem Inv.stkSub (I : Inv X pins σ H s) : ∀ b ∈ frs X.stack, b ∈ X.env.locals :: X.fs := fun b hb => by
  rcases I.ok.stk with e | ⟨e, hf⟩
  · rw [e] at hb; exact List.mem_cons_of_mem _ hb
  · rw [e] at hb
    unfold frs at hb
    rw [List.filterMap_cons, hf] at hb
    exact hb
theorem Inv.stkFree (I : Inv X pins σ H s) : ∀ b ∈ frs X.stack, H b = none := fun b hb => by
  rcases List.mem_cons.mp (I.stkSub b hb) with e | hb
  · rw [e]; exact I.free
  · obtain ⟨_, o, ho, _⟩ := I.ok.funs.mem hb
    exact I.base.free b o ho (I.ok.frf b hb) fun z => I.ok.exfs b z hb
/-- THE STEP: the untracked objects but the frame and the records at ch are kept (the callers' frames up to slots), the frame's map is kept, the new abstract heap is held -/
theorem Inv.step {g' : Array GenState} {t' : Nat} {d' : Drawn} {ch : List Addr} (I : Inv X pins σ H s)
    (hch : ∀ b ∈ ch, (b ∈ X.ex ∨ X.s_0.heap.objs.size ≤ b) ∧ b ≠ X.env.locals ∧ (∀ x c, X.env.cells.lookup x = some c → c ≠ b) ∧ ∀ p ∈ X.pn ++ pins, p.1 ≠ b)
    (keep : ∀ b o, b ≠ X.env.locals → b ∉ X.fs → b ∉ ch → s.heap.get? b = some o → H b = none → h'.get? b = some o)
    (slot : ∀ b o, b ≠ X.env.locals → b ∈ X.fs → b ∉ ch → s.heap.get? b = some o → H b = none → ∃ sl, h'.get? b = some { o with slots := sl }) (free : ∀ b o, b ∉ ch → s.heap.get? b = some o → H b = none → H' b = none)
    (there : ∀ b o, b ∉ ch → s.heap.get? b = some o → ∃ o', h'.get? b = some o')
    (tups : ∀ b xs, H b = some (.tup xs) → H' b = some (.tup xs)) (frzs : ∀ b o u, H b = some (.frz o u) → H' b = some (.frz o u)) (tbls : ∀ b ps, H b = some (.tbl ps) → ∃ more, H' b = some (.tbl (ps ++ more)))
    (ns : ∀ m, s.heap.Ns X.env.locals m → h'.Ns X.env.locals m) (hok : HOk X.prog X.w H' h') (hg : AllBare g') :
    Inv X pins σ H' { s with heap := h', gens := g', drawn := d', toks := t' } := by
  have neL : ∀ b o, X.s_0.heap.get? b = some o → b ≠ X.env.locals := fun b o e => Nat.ne_of_lt (Nat.lt_of_lt_of_le (Heap.lt_size e) I.ok.above)
  have neC : ∀ b o, X.s_0.heap.get? b = some o → b ∉ X.ex → b ∉ ch := fun b o e hx hb => by
    rcases (hch b hb).1 with z | z
    · exact hx z
    · exact absurd (Nat.lt_of_lt_of_le (Heap.lt_size e) z) (Nat.lt_irrefl _)
  have cellK : ∀ x c, X.env.cells.lookup x = some c → ∀ v, s.heap.IsCell c v → h'.IsCell c v := fun x c e v ⟨o, ho, hd⟩ => by
    have nch : c ∉ ch := fun z => (hch c z).2.2.1 x c e rfl
    by_cases hc : c ∈ X.fs
    · obtain ⟨sl, q⟩ := slot c o (I.cne x c e) hc nch ho (I.freeC x c e)
      exact ⟨_, q, hd⟩
    · exact ⟨o, keep c o (I.cne x c e) hc nch ho (I.freeC x c e), hd⟩
  refine ⟨I.ok, I.os, hg, ⟨fun b o e n hb hx => ?_, fun b o e n hb hx => ?_, fun b o e n hx => ?_, fun b o e hx => ?_, fun b xs e => tups b xs (I.base.tups b xs e), fun b o xs e => frzs b o xs (I.base.frzs b o xs e), fun b ps e => ?_⟩, ?_, fun x c e => ?_, ?_, fun x c e => ?_, fun p hp => ?_, hok, I.len⟩
  · exact keep b o (neL b o e) hb (neC b o e hx) (I.base.keep b o e n hb hx) (I.base.free b o e n hx)
  · obtain ⟨sl, e1⟩ := I.base.slot b o e n hb hx
    obtain ⟨sl', e2⟩ := slot b _ (neL b o e) hb (neC b o e hx) e1 (I.base.free b o e n hx)
    exact ⟨sl', e2⟩
  · obtain ⟨o', e1⟩ := I.base.there b o e hx
    exact free b o' (neC b o e hx) e1 (I.base.free b o e n hx)
  · obtain ⟨o', e1⟩ := I.base.there b o e hx
    exact there b o' (neC b o e hx) e1
  · obtain ⟨m1, e1⟩ := I.base.tbls b ps e
    obtain ⟨m2, e2⟩ := tbls b _ e1
    exact ⟨m1 ++ m2, by rw [e2, Array.append_assoc]⟩
  · obtain ⟨m, hn, hl⟩ := I.loc
    refine ⟨m, ns m hn, fun i x v e1 e2 e3 => ?_⟩
    obtain ⟨u, r, l⟩ := hl i x v e1 e2 e3
    refine ⟨u, r, ?_⟩
    rcases l with l | ⟨k, c, e, z⟩
    · exact .inl l
    · exact .inr ⟨k, c, e, cellK x c e _ z⟩
  · obtain ⟨v, z⟩ := I.cell x c e
    exact ⟨v, cellK x c e v z⟩
  · obtain ⟨m, ⟨o, _, _, ho, _⟩, _⟩ := I.loc
    exact free _ o (fun z => (hch _ z).2.1 rfl) ho I.free
  · obtain ⟨v, o, ho, hd⟩ := I.cell x c e
    exact free c o (fun z => (hch c z).2.2.1 x c e rfl) ho (I.freeC x c e)
  · obtain ⟨e, n, ne, nf, d⟩ := I.pin p hp
    have nch : p.1 ∉ ch := fun z => (hch p.1 z).2.2.2 p hp rfl
    exact ⟨keep p.1 p.2 ne nf nch e n, free p.1 p.2 nch e n, ne, nf, d⟩
/-- .. where the frame's own object is kept too -/
theorem Inv.un {t' : Nat} (I : Inv X pins σ H s) (u : Un X.fs [] H H' s.heap h') (hok : HOk X.prog X.w H' h') : Inv X pins σ H' { s with heap := h', toks := t' } := by
  obtain ⟨m, ⟨o, es, ep, ho, r⟩, _⟩ := id I.loc
  obtain ⟨sl, hL⟩ := u.any ho I.free (by simp)
  exact I.step (g' := s.gens) (d' := s.drawn) (ch := []) (fun _ z => nomatch z) (fun b o _ hb _ e n => u.keep b o e n hb (by simp)) (fun b o _ hb _ e n => u.slot b o e n hb (by simp)) (fun b o _ e n => u.free b o e n (by simp)) (fun b o _ e => u.there b o e (by simp)) u.tups u.frzs u.tbls (fun m' hm => by
    obtain ⟨o', es', ep', ho', r'⟩ := hm
    rw [ho] at ho'; cases ho'
    exact ⟨_, es', ep', hL, r'⟩) hok I.bare
/-- behind a call (or a comprehension's block): the slots of this frame may have changed too, the records at ch may have turned -/
theorem Inv.call {g' : Array GenState} {t' : Nat} {d' : Drawn} {ch : List Addr} (I : Inv X pins σ H s) (u : Un (frs X.stack) ch H H' s.heap h') (hok : HOk X.prog X.w H' h') (hg : AllBare g')
    (hch : ∀ b ∈ ch, (b ∈ X.ex ∨ X.s_0.heap.objs.size ≤ b) ∧ b ≠ X.env.locals ∧ (∀ x c, X.env.cells.lookup x = some c → c ≠ b) ∧ ∀ p ∈ X.pn ++ pins, p.1 ≠ b) :
    Inv X pins σ H' { s with heap := h', gens := g', drawn := d', toks := t' } := by
  obtain ⟨m, ⟨o, es, ep, ho, r⟩, _⟩ := id I.loc
  obtain ⟨sl, hL⟩ := u.any ho I.free fun z => (hch _ z).2.1 rfl
  exact I.step (ch := ch) hch (fun b o hL hb hc e n => u.keep b o e n (fun z => (List.mem_cons.mp (I.stkSub b z)).elim hL hb) hc) (fun b o _ _ hc e n => u.any e n hc) (fun b o hc e n => u.free b o e n hc) (fun b o hc e => u.there b o e hc) u.tups u.frzs u.tbls (fun m' hm => by
    obtain ⟨o', es', ep', ho', r'⟩ := hm
    rw [ho] at ho'; cases ho'
    exact ⟨_, es', ep', hL, r'⟩) hok hg
/-- an untracked record of ours (an iterator) has turned -/
theorem Inv.turned {t' : Nat} {it : Addr} (I : Inv X pins σ H s) (k : ∀ b o, b ≠ it → s.heap.get? b = some o → h'.get? b = some o) (hn : H it = none) (hL : it ≠ X.env.locals)
    (h1 : it ∈ X.ex ∨ X.s_0.heap.objs.size ≤ it) (h2 : ∀ x c, X.env.cells.lookup x = some c → c ≠ it) (h3 : ∀ p ∈ X.pn ++ pins, p.1 ≠ it) : Inv X pins σ H { s with heap := h', toks := t' } := by
  have nit : ∀ b u, H b = some u → b ≠ it := fun b u e z => by rw [z, hn] at e; cases e
  refine I.step (g' := s.gens) (d' := s.drawn) (ch := [it]) (fun b hb => ?_) (fun b o _ _ hc e _ => k b o (fun z => hc (by simp [z])) e) (fun b o _ _ hc e _ => ⟨o.slots, k b o (fun z => hc (by simp [z])) e⟩) (fun _ _ _ _ n => n)
    (fun b o hc e => ⟨o, k b o (fun z => hc (by simp [z])) e⟩) (fun _ _ e => e) (fun _ _ _ e => e) (fun b ps e => ⟨#[], by rw [e]; simp⟩) (fun m hm => ?_) (fun b u e => ?_) I.bare
  · have e : b = it := by simpa using hb
    subst e
    exact ⟨h1, hL, h2, h3⟩
  · obtain ⟨o, es, ep, ho, r⟩ := hm
    exact ⟨o, es, ep, k _ o (Ne.symm hL) ho, r⟩
  · refine (I.hok b u e).stay (fun c v hc q => k c v ?_ q) (fun _ q => q) fun _ _ q => q
    rcases hc with z | z
    · rw [z]; exact nit b u e
    · exact nit c _ z
theorem Inv.tok (I : Inv X pins σ H s) (t : Nat) : Inv X pins σ H { s with toks := t } := I.un (h' := s.heap) (t' := t) Un.refl I.hok
/-- all objects kept -/
theorem Inv.kept {t' : Nat} (I : Inv X pins σ H s) (k : ∀ b u, s.heap.get? b = some u → h'.get? b = some u) : Inv X pins σ H { s with heap := h', toks := t' } := I.un (Un.kept k) (I.hok.kept k)
/-- a new object laid and tracked -/
theorem Inv.laid {a : Addr} {o : HO} {t' : Nat} (I : Inv X pins σ H s) (k : ∀ b u, s.heap.get? b = some u → h'.get? b = some u) (hp : s.heap.objs.size ≤ a) (new : ObjOk X.prog X.w (upd H a o) h' a o) :
    Inv X pins σ (upd H a o) { s with heap := h', toks := t' } := I.un (Un.laid k hp (I.hok.fresh hp)) (I.hok.laid k hp new)
/-- an object written -/
theorem Inv.write {x e : Addr} {o : HO} {t' : Nat} (I : Inv X pins σ H s) (mu : Mut (H x)) (he : e = x ∨ H e = some (.own x)) (k : ∀ b u, b ≠ e → s.heap.get? b = some u → h'.get? b = some u) (heo : ∃ u, h'.get? e = some u)
    (new : ObjOk X.prog X.w (upd H x o) h' x o) : Inv X pins σ (upd H x o) { s with heap := h', toks := t' } := I.un (Un.write mu he k heo) (I.hok.write mu he k heo new)
/-- forgetting slots, pins -/
theorem Inv.weak {σ' : List (Option V)} (I : Inv X pins σ H s) (hl : σ'.length = σ.length) (w : ∀ (i : Nat) v, σ'[i]? = some (some v) → σ[i]? = some (some v)) : Inv X pins σ' H s :=
  ⟨I.ok, I.os, I.bare, I.base, let ⟨m, hn, hl'⟩ := I.loc; ⟨m, hn, fun i x v e1 e2 e3 => hl' i x v e1 (w i v e2) e3⟩, I.cell, I.free, I.freeC, I.pin, I.hok, hl.trans I.len⟩
theorem Inv.pins_of {pins' : List (Addr × Obj)} (I : Inv X pins σ H s) (h : ∀ p ∈ pins', s.heap.get? p.1 = some p.2 ∧ H p.1 = none ∧ p.1 ≠ X.env.locals ∧ p.1 ∉ X.fs ∧ ∀ v, p.2.data ≠ .cell v) : Inv X pins' σ H s :=
  ⟨I.ok, I.os, I.bare, I.base, I.loc, I.cell, I.free, I.freeC, fun p hp => (List.mem_append.mp hp).elim (fun z => I.pin p (List.mem_append_left _ z)) (h p), I.hok, I.len⟩
theorem nodup_ix {N : List Str} (hN : N.Nodup) {i j : Nat} {x : Str} (a : N[i]? = some x) (b : N[j]? = some x) : i = j := by
  obtain ⟨h1, e1⟩ := List.getElem?_eq_some_iff.mp a
  obtain ⟨h2, e2⟩ := List.getElem?_eq_some_iff.mp b
  exact (List.getElem_inj hN).mp (e1.trans e2.symm)
/-- a name is stored; what changed -/
theorem store_ok2 {M : Model} {A : Around} {E : Value → Shared → Prop} {i : Nat} {x : Str} {v : V} {u : Value} {Q : Unit → Shared → Prop} (I : Inv X pins σ H s) (hN : X.N.Nodup) (hi : X.N[i]? = some x) (hx : Loc X.env.scope x) (r : RelV v u)
    (h : ∀ s', Inv X pins (σ.set i (some v)) H s' → (∃ a, Heap.SameBut a s.heap s'.heap ∧ (a = X.env.locals ∨ X.env.cells.lookup x = some a)) → Q () s') (hf : X.fn x = true ∨ X.env.scope.names.lookup x = some .local := by first | exact .inl rfl | exact .inr rfl | assumption) : wpAny M A (storeName X.env x u) Q E s := by
  obtain ⟨m, hn, hl⟩ := id I.loc
  have hcls : (X.env.scope.kind == .class || (X.env.scope.kind == .module && X.env.locals != X.env.globals)) = false := by rw [I.ok.kind]; rfl
  have hiσ : i < σ.length := by rw [I.len]; exact (List.getElem?_eq_some_iff.mp hi).1
  have cne := I.cne
  have tracked : ∀ {a : Addr} {h' : Heap}, (∃ o, s.heap.get? a = some o ∧ H a = none) → Heap.SameBut a s.heap h' → HOk X.prog X.w H h' := fun {a h'} ha hs b ob e => by
    obtain ⟨_, _, hfree⟩ := ha
    refine (I.hok b ob e).stay (fun c w' hc q => (hs.2 c ?_).trans q) (fun _ q => q) fun _ _ q => q
    rintro rfl
    rcases hc with rfl | hc
    · rw [hfree] at e; cases e
    · rw [hfree] at hc; cases hc
  rcases hx with hk | hk
  · refine wpAny_storeName_local hk hn (fun h' hn' hs => ?_) hcls
    obtain ⟨oL, _, _, hoL, _⟩ := id hn
    refine h _ ⟨I.ok, I.os, I.bare, ⟨fun b o e n hb hx => ?_, fun b o e n hb hx => ?_, I.base.free, fun b o e hx => ?_, I.base.tups, I.base.frzs, I.base.tbls⟩, ⟨_, hn', fun j y v' e1 e2 e3 => ?_⟩, fun y c e => ?_, I.free, I.freeC, fun p hp => ?_, tracked ⟨oL, hoL, I.free⟩ hs, by simpa using I.len⟩ ⟨_, hs, .inl rfl⟩
    · exact (hs.2 b (Nat.ne_of_lt (Nat.lt_of_lt_of_le (Heap.lt_size e) I.ok.above))).trans (I.base.keep b o e n hb hx)
    · obtain ⟨sl, e1⟩ := I.base.slot b o e n hb hx
      exact ⟨sl, (hs.2 b (Nat.ne_of_lt (Nat.lt_of_lt_of_le (Heap.lt_size e) I.ok.above))).trans e1⟩
    · obtain ⟨o', e1⟩ := I.base.there b o e hx
      exact ⟨o', (hs.2 b (Nat.ne_of_lt (Nat.lt_of_lt_of_le (Heap.lt_size e) I.ok.above))).trans e1⟩
    · by_cases hj : j = i
      · subst hj
        rw [hi] at e1; cases e1
        rw [List.getElem?_set_self hiσ] at e2
        cases e2
        exact ⟨u, r, .inl ⟨hk, by simp⟩⟩
      · rw [List.getElem?_set_ne (Ne.symm hj)] at e2
        obtain ⟨u', r', q⟩ := hl j y v' e1 e2 e3
        refine ⟨u', r', ?_⟩
        rcases q with ⟨k, e⟩ | ⟨k, c, e, z⟩
        · refine .inl ⟨k, ?_⟩
          have : y ≠ x := fun e => hj (nodup_ix hN e1 (e ▸ hi))
          simp [this, e]
        · exact .inr ⟨k, c, e, z.sameBut hs (cne y c e)⟩
    · obtain ⟨w', z⟩ := I.cell y c e
      exact ⟨w', z.sameBut hs (cne y c e)⟩
    · obtain ⟨e, n, ne, nf, d⟩ := I.pin p hp
      exact ⟨(hs.2 p.1 ne).trans e, n, ne, nf, d⟩
  · have hfn : X.fn x = true := by
      rcases hf with z | z
      · exact z
      · rw [z] at hk; cases hk
    obtain ⟨c, hc⟩ := I.ok.has x (.inl hk)
    obtain ⟨w', z⟩ := I.cell x c hc
    refine wpAny_storeName_cell I.ok.kind hk hc z (fun h' hc' hs => ?_)
    obtain ⟨oc, hoc, hocd⟩ := id z
    refine h { s with heap := h' } ⟨I.ok, I.os, I.bare, ⟨fun b o e n hb hx => ?_, fun b o e n hb hx => ?_, I.base.free, fun b o e hx => ?_, I.base.tups, I.base.frzs, I.base.tbls⟩, ⟨m, hn.sameBut hs (Ne.symm (cne x c hc)), fun j y v' e1 e2 e3 => ?_⟩, fun y c' e => ?_, I.free, I.freeC, fun p hp => ?_, tracked ⟨oc, hoc, I.freeC x c hc⟩ hs, by simpa using I.len⟩ ⟨c, hs, .inr hc⟩
    · exact (hs.2 b (Nat.ne_of_lt (Nat.lt_of_lt_of_le (Heap.lt_size e) (I.ok.cab x c hfn hc)))).trans (I.base.keep b o e n hb hx)
    · obtain ⟨sl, e1⟩ := I.base.slot b o e n hb hx
      exact ⟨sl, (hs.2 b (Nat.ne_of_lt (Nat.lt_of_lt_of_le (Heap.lt_size e) (I.ok.cab x c hfn hc)))).trans e1⟩
    · obtain ⟨o', e1⟩ := I.base.there b o e hx
      exact ⟨o', (hs.2 b (Nat.ne_of_lt (Nat.lt_of_lt_of_le (Heap.lt_size e) (I.ok.cab x c hfn hc)))).trans e1⟩
    · by_cases hj : j = i
      · subst hj
        rw [hi] at e1; cases e1
        rw [List.getElem?_set_self hiσ] at e2
        cases e2
        exact ⟨u, r, .inr ⟨.inl hk, c, hc, hc'⟩⟩
      · rw [List.getElem?_set_ne (Ne.symm hj)] at e2
        obtain ⟨u', r', q⟩ := hl j y v' e1 e2 e3
        refine ⟨u', r', ?_⟩
        rcases q with q | ⟨k, c', e, z'⟩
        · exact .inl q
        · refine .inr ⟨k, c', e, z'.sameBut hs ?_⟩
          rintro rfl
          exact hj (nodup_ix hN e1 (I.ok.inj _ _ _ e hc ▸ hi))
    · by_cases hcc : c' = c
      · subst hcc; exact ⟨_, hc'⟩
      · obtain ⟨w2, z2⟩ := I.cell y c' e
        exact ⟨w2, z2.sameBut hs hcc⟩
    · obtain ⟨e, n, ne, nf, d⟩ := I.pin p hp
      refine ⟨(hs.2 p.1 ?_).trans e, n, ne, nf, d⟩
      intro q
      rw [q, hoc] at e
      have q' : oc = p.2 := Option.some.inj e
      exact d w' (by rw [← q']; exact hocd)
theorem store_ok {M : Model} {A : Around} {E : Value → Shared → Prop} {i : Nat} {x : Str} {v : V} {u : Value} {Q : Unit → Shared → Prop} (I : Inv X pins σ H s) (hN : X.N.Nodup) (hi : X.N[i]? = some x) (hx : Loc X.env.scope x) (r : RelV v u)
    (h : ∀ s', Inv X pins (σ.set i (some v)) H s' → Q () s') (hf : X.fn x = true ∨ X.env.scope.names.lookup x = some .local := by first | exact .inl rfl | exact .inr rfl | assumption) : wpAny M A (storeName X.env x u) Q E s :=
  store_ok2 I hN hi hx r (fun s' I' _ => h s' I') hf
/-- behind a call or a block, the state as it is -/
theorem Inv.call' {s' : Shared} {ch : List Addr} (I : Inv X pins σ H s) (ho : s'.os = s.os) (u : Un (frs X.stack) ch H H' s.heap s'.heap) (hok : HOk X.prog X.w H' s'.heap) (hg : AllBare s'.gens)
    (hch : ∀ b ∈ ch, (b ∈ X.ex ∨ X.s_0.heap.objs.size ≤ b) ∧ b ≠ X.env.locals ∧ (∀ x c, X.env.cells.lookup x = some c → c ≠ b) ∧ ∀ p ∈ X.pn ++ pins, p.1 ≠ b) : Inv X pins σ H' s' := by
  obtain ⟨h', g', d', t', o'⟩ := s'
  have e : o' = s.os := ho
  subst e
  exact I.call (g' := g') (t' := t') (d' := d') u hok hg hch
end
/-- an exception: its class, its own dict's address (where it has one), the abstract heap behind it -/
abbrev XK := Value → Option Addr → Hp → Prop
abbrev St := List (Option V)
abbrev VK := V → Hp → Prop
/-- an expression's reading; a test's; an argument list's -/
abbrev TE := St → Hp → VK → Prop
abbrev TT := St → Hp → (Bool → Hp → Prop) → Prop
abbrev TA := St → Hp → (List V → Hp → Prop) → Prop
/-- what is wanted behind a statement -/
structure Ends where
  nx : St → Hp → Prop
  rt : VK
  bk : St → Hp → Prop := fun _ _ => False
  ct : St → Hp → Prop := fun _ _ => False
abbrev TS := Ends → St → Hp → Prop
def EP (X : Cx) (pins : List (Addr × Obj)) (σ : St) (Q : VK) (u : Value) (s' : Shared) : Prop := ∃ v H', Inv X pins σ H' s' ∧ RelV v u ∧ Q v H'
def TP (X : Cx) (pins : List (Addr × Obj)) (σ : St) (Q : Bool → Hp → Prop) (b : Bool) (s' : Shared) : Prop := ∃ H', Inv X pins σ H' s' ∧ Q b H'
def AP (X : Cx) (pins : List (Addr × Obj)) (σ : St) (Q : List V → Hp → Prop) (us : List Value) (s' : Shared) : Prop := ∃ vs H', Inv X pins σ H' s' ∧ Vals vs us ∧ Q vs H'
def SP (X : Cx) (pins : List (Addr × Obj)) (D : Ends) (f : Flow) (s' : Shared) : Prop :=
  match f with
  | .next => ∃ σ' H', Inv X pins σ' H' s' ∧ D.nx σ' H'
  | .brk => ∃ σ' H', Inv X pins σ' H' s' ∧ D.bk σ' H'
  | .cont => ∃ σ' H', Inv X pins σ' H' s' ∧ D.ct σ' H'
  | .ret u => ∃ v σ' H', Inv X pins σ' H' s' ∧ RelV v u ∧ D.rt v H'
def PE (X : Cx) (e : Expr) (t : TE) : Prop :=
  ∀ (pins : List (Addr × Obj)) (s : Shared) (σ : St) (H : Hp) (Q : VK), Inv X pins σ H s → t σ H Q → wpAny (model X.prog X.w) X.A (eval e X.env) (EP X pins σ Q) X.xe s
def PT (X : Cx) (e : Expr) (t : TT) : Prop :=
  ∀ (pins : List (Addr × Obj)) (s : Shared) (σ : St) (H : Hp) (Q : Bool → Hp → Prop), Inv X pins σ H s → t σ H Q → wpAny (model X.prog X.w) X.A (isTrue e X.env (eval e X.env)) (TP X pins σ Q) X.xe s
/-- a test whatever its 'whole' is (and, or) -/
def PW (X : Cx) (e : Expr) (t : TT) : Prop :=
  ∀ (whole : Sem Value) (pins : List (Addr × Obj)) (s : Shared) (σ : St) (H : Hp) (Q : Bool → Hp → Prop), Inv X pins σ H s → t σ H Q → wpAny (model X.prog X.w) X.A (isTrue e X.env whole) (TP X pins σ Q) X.xe s
theorem PW.pt {X : Cx} {e : Expr} {t : TT} (h : PW X e t) : PT X e t := h _
/-- an argument list (no star), from the left -/
def PA (X : Cx) (es : List Expr) (t : TA) : Prop :=
  ∀ (pos : Pos) (pins : List (Addr × Obj)) (s : Shared) (σ : St) (H : Hp) (Q : List V → Hp → Prop), Inv X pins σ H s → t σ H Q → wpAny (model X.prog X.w) X.A (spliced (backTo pos (starEach es X.env))) (AP X pins σ Q) X.xe s
def PS (X : Cx) (st : Stmt) (t : TS) : Prop :=
  ∀ (pins : List (Addr × Obj)) (s : Shared) (σ : St) (H : Hp) (D : Ends), Inv X pins σ H s → t D σ H → wpAny (model X.prog X.w) X.A (exec st X.env) (SP X pins D) X.xe s
def PSs (X : Cx) (st : List Stmt) (t : TS) : Prop :=
  ∀ (pins : List (Addr × Obj)) (s : Shared) (σ : St) (H : Hp) (D : Ends), Inv X pins σ H s → t D σ H → wpAny (model X.prog X.w) X.A (execs st X.env) (SP X pins D) X.xe s
/-- weaken the end -/
theorem thn {α : Type} {t : Sem α} {Q Q' : α → Shared → Prop} {M : Model} {A : Around} {E : Value → Shared → Prop} {s : Shared} (h : wpAny M A t Q E s) (hQ : ∀ a s, Q a s → Q' a s) : wpAny M A t Q' E s := wpAny_mono h hQ fun _ _ x => x
end L2
namespace L2
open PySem PySem.Spec PyProof.Rows
section
variable {X : Cx}
def tVar (i : Nat) : TE := fun σ H Q => ∃ v, σ[i]? = some (some v) ∧ Q v H
def tC (v : V) : TE := fun _ H Q => Q v H
theorem pe_var {i : Nat} {x : Str} {pos : Pos} (hN : X.N[i]? = some x) (hv : Vis X.env.scope x) (hd : (x == ("__debug__" : Str)) = false := by decide) (hcd : (x == ("__classdict__" : Str)) = false := by decide) : PE X (.Name x pos) (tVar i) := by
  intro pins s σ H Q I h
  obtain ⟨v, e, h⟩ := h
  obtain ⟨m, hn, hl⟩ := I.loc
  obtain ⟨u, r, l⟩ := hl i x v hN e hv
  have fin : EP X pins σ Q u s := ⟨v, H, I, r, h⟩
  rcases l with ⟨hk, hm⟩ | ⟨hk, c, hc, hcell⟩
  · exact wpAny_Name (wpAny_loadName_local I.ok.kind hk hn hm fin) hd
  · rcases hk with hk | hk
    · exact wpAny_Name (wpAny_loadName_cell I.ok.kind hk hc hcell fin) hd
    · exact wpAny_Name (wpAny_loadName_free I.ok.kind hk hc hcell fin hcd) hd
theorem pe_int {i j pos} : PE X (.Constant (.int i) j pos) (tC (.int i)) := fun _ _ _ H _ I h => wpAny_Constant_int ⟨.int i, H, I.tok _, ⟨_, rfl⟩, h⟩
theorem pe_bl {b j pos} : PE X (.Constant (.bool b) j pos) (tC (.bl b)) := fun _ _ _ H _ I h => Constant_bool ⟨.bl b, H, I, rfl, h⟩
theorem pe_non {j pos} : PE X (.Constant .none j pos) (tC .non) := fun _ _ _ H _ I h => Constant_none ⟨.non, H, I, rfl, h⟩
/-- a global name of the def -/
def Gl (X : Cx) (x : Str) : Prop := X.env.kindOf x = some .globalImplicit
theorem ld_glob {E : Value → Shared → Prop} {pins : List (Addr × Obj)} {s : Shared} {σ : St} {H : Hp} {x : Str} {u : Value} {pos : Pos} {Q : Value → Shared → Prop} (I : Inv X pins σ H s) (hg : Gl X x) (hm : X.mg x = some u) (h : Q u s)
    (hd : (x == ("__debug__" : Str)) = false := by decide) : wpAny (model X.prog X.w) X.A (eval (.Name x pos) X.env) Q E s :=
  Calls.Name_function_global I.ok.kind hg (Calls.loadGlobal_global (by rw [I.ok.glob]; exact I.mod.glob.keeps I.bk) hm h) hd
theorem ld_blt {E : Value → Shared → Prop} {pins : List (Addr × Obj)} {s : Shared} {σ : St} {H : Hp} {x : Str} {u : Value} {pos : Pos} {Q : Value → Shared → Prop} (I : Inv X pins σ H s) (hg : Gl X x) (hm : X.mg x = none) (hv : bootBuiltins x = some u) (h : Q u s)
    (hn : x ≠ "__name__" := by decide) (hd : (x == ("__debug__" : Str)) = false := by decide) : wpAny (model X.prog X.w) X.A (eval (.Name x pos) X.env) Q E s := by
  obtain ⟨mb, h1, h2⟩ := I.mod.blt
  exact Calls.Name_function_global I.ok.kind hg (Calls.loadGlobal_builtin (by rw [I.ok.glob]; exact I.mod.glob.keeps I.bk) hm (by rw [I.ok.blt]; exact h1.keeps I.bk) ((h2 x hn).trans hv) h) hd
/-- a module's constant, a class, a function, as a value -/
theorem pe_glob {x : Str} {v : V} {u : Value} {pos : Pos} (hg : Gl X x) (hm : X.mg x = some u) (r : RelV v u) (hd : (x == ("__debug__" : Str)) = false := by decide) : PE X (.Name x pos) (tC v) :=
  fun _ _ _ H _ I h => ld_glob I hg hm ⟨v, H, I, r, h⟩ hd
variable {a b : Expr} {ta tb : TE} {pos : Pos}
def PC (X : Cx) (op : CmpOp) (a b : Expr) (t : TE) : Prop :=
  ∀ (pins : List (Addr × Obj)) (s : Shared) (σ : St) (H : Hp) (Q : VK), Inv X pins σ H s → t σ H Q →
    wpAny (model X.prog X.w) X.A (eval a X.env) (fun v s₁ => wpAny (model X.prog X.w) X.A (eval b X.env) (fun u s₂ => wpAny (model X.prog X.w) X.A (compareOp op v u) (EP X pins σ Q) X.xe s₂) X.xe s₁) X.xe s
theorem nobehind (b : Expr) {op : CmpOp} (h : op ≠ .In) (h2 : op ≠ .NotIn) : behindInMarks op b = false := by
  have e1 : (op == CmpOp.In) = false := by cases op <;> first | rfl | exact absurd rfl h
  have e2 : (op == CmpOp.NotIn) = false := by cases op <;> first | rfl | exact absurd rfl h2
  cases b <;> simp [behindInMarks, e1, e2]
/-- is None -/
def tIsN (ta : TE) : TE := fun σ H Q => ta σ H fun x H1 => Q (.bl (decide (x = .non))) H1
theorem RelV.none_iff {x : V} {v : Value} (r : RelV x v) : (v == Value.none) = decide (x = .non) := by
  cases x with
  | non => cases r; rfl
  | bl _ => cases r; rfl
  | int _ => obtain ⟨t, rfl⟩ := r; rfl
  | str _ => obtain ⟨t, rfl⟩ := r; rfl
  | byt _ => obtain ⟨t, rfl⟩ := r; rfl
  | flt _ => obtain ⟨t, rfl⟩ := r; rfl
  | ref _ => cases r; rfl
  | ty _ => cases r; rfl
theorem pc_isN {j pos'} (ha : PE X a ta) : PC X .Is a (.Constant .none j pos') (tIsN ta) := by
  intro pins s σ H Q I h
  refine thn (ha pins s σ H _ I h) fun v s1 ⟨x, H1, I1, r1, q1⟩ => ?_
  exact Constant_none (is_none_gen ⟨.bl _, H1, I1, by rw [r1.none_iff]; rfl, q1⟩)
/-- a comparison as a value, as a test -/
def tB (t : TE) : TT := fun σ H Q => t σ H fun x H1 => ∃ c, x = .bl c ∧ Q c H1
theorem pt_cmp {op : CmpOp} {t : TE} (h : PC X op a b t) (h1 : behindInMarks op b = false := by first | exact nobehind _ (by decide) (by decide) | rfl) : PT X (.Compare a [op] [b] pos) (tB t) := by
  intro pins s σ H Q I hw
  refine wpAny_isTrue_Compare1 (thn (h pins s σ H _ I hw) fun v s1 h1 => thn h1 fun u s2 h2 => thn h2 fun c s3 ⟨x, H1, I1, r1, q1⟩ => ?_) h1
  obtain ⟨d, rfl, q⟩ := q1
  cases r1
  exact wpAny_truthy_bool ⟨H1, I1, q⟩
/-- an expression whose value is a bool, as a test -/
theorem pt_val {e : Expr} {t : TE} (h : PE X e t) (he : ∀ whole, isTrue e X.env whole = (do let v ← whole; standAt e.pos; holding [v] (truthy v)) := by intro _; rfl) : PT X e (tB t) := by
  intro pins s σ H Q I hw
  refine isTrue_plain (thn (h pins s σ H _ I hw) fun v s1 ⟨x, H1, I1, r1, q1⟩ => ?_) (he _)
  obtain ⟨d, rfl, q⟩ := q1
  cases r1
  exact wpAny_truthy_bool ⟨H1, I1, q⟩
variable {tA tB' : TT} {rest : List Expr}
def tAnd (t u : TT) : TT := fun σ H Q => t σ H fun c H1 => if c = true then u σ H1 Q else Q false H1
def tOr (t u : TT) : TT := fun σ H Q => t σ H fun c H1 => if c = true then Q true H1 else u σ H1 Q
def tNot (t : TT) : TT := fun σ H Q => t σ H fun c H1 => Q (!c) H1
theorem pw_and1 (ha : PT X a tA) : PW X (.BoolOp .And [a] pos) tA := by
  intro wh pins s σ H Q I h
  refine isTrue_and (thn (ha pins s σ H Q I h) fun c s1 e => ?_)
  cases c with
  | true => exact isTrue_and_nil e
  | false => exact e
theorem pw_or1 (ha : PT X a tA) : PW X (.BoolOp .Or [a] pos) tA := by
  intro wh pins s σ H Q I h
  refine isTrue_or (thn (ha pins s σ H Q I h) fun c s1 e => ?_)
  cases c with
  | false => exact isTrue_or_nil e
  | true => exact e
theorem pw_and (ha : PT X a tA) (hb : PW X (.BoolOp .And (b :: rest) pos) tB') : PW X (.BoolOp .And (a :: b :: rest) pos) (tAnd tA tB') := by
  intro wh pins s σ H Q I h
  refine isTrue_and (thn (ha pins s σ H _ I h) fun c s1 ⟨H1, I1, q1⟩ => ?_)
  cases c with
  | true => exact hb wh pins s1 σ H1 Q I1 q1
  | false => exact ⟨H1, I1, q1⟩
theorem pw_or (ha : PT X a tA) (hb : PW X (.BoolOp .Or (b :: rest) pos) tB') : PW X (.BoolOp .Or (a :: b :: rest) pos) (tOr tA tB') := by
  intro wh pins s σ H Q I h
  refine isTrue_or (thn (ha pins s σ H _ I h) fun c s1 ⟨H1, I1, q1⟩ => ?_)
  cases c with
  | true => exact ⟨H1, I1, q1⟩
  | false => exact hb wh pins s1 σ H1 Q I1 q1
theorem pt_not (ha : PT X a tA) : PT X (.UnaryOp .Not a pos) (tNot tA) := by
  intro pins s σ H Q I h
  exact isTrue_not (ha pins s σ H (fun c H1 => Q (!c) H1) I h)
/-- .. as values (bools) -/
def tAndV (ta tb : TE) : TE := fun σ H Q => ta σ H fun x H1 => ∃ c, x = .bl c ∧ if c = true then tb σ H1 Q else Q (.bl false) H1
def tOrV (ta tb : TE) : TE := fun σ H Q => ta σ H fun x H1 => ∃ c, x = .bl c ∧ if c = true then Q (.bl true) H1 else tb σ H1 Q
theorem pe_one {op} {t : TE} (h : PE X a t) : PE X (.BoolOp op [a] pos) t := fun pins s σ H Q I hw => BoolOp_one (h pins s σ H Q I hw)
theorem pe_and (ha : PE X a ta) (hb : PE X (.BoolOp .And (b :: rest) pos) tb) : PE X (.BoolOp .And (a :: b :: rest) pos) (tAndV ta tb) := by
  intro pins s σ H Q I h
  refine BoolOp_and (thn (ha pins s σ H _ I h) fun v s1 ⟨x, H1, I1, r1, q1⟩ => ?_)
  obtain ⟨c, rfl, q1⟩ := q1
  cases r1
  refine wpAny_truthy_bool ?_
  cases c with
  | true => exact hb pins s1 σ H1 Q I1 q1
  | false => exact ⟨.bl false, H1, I1, rfl, q1⟩
theorem pe_or (ha : PE X a ta) (hb : PE X (.BoolOp .Or (b :: rest) pos) tb) : PE X (.BoolOp .Or (a :: b :: rest) pos) (tOrV ta tb) := by
  intro pins s σ H Q I h
  refine BoolOp_or (thn (ha pins s σ H _ I h) fun v s1 ⟨x, H1, I1, r1, q1⟩ => ?_)
  obtain ⟨c, rfl, q1⟩ := q1
  cases r1
  refine wpAny_truthy_bool ?_
  cases c with
  | false => exact hb pins s1 σ H1 Q I1 q1
  | true => exact ⟨.bl true, H1, I1, rfl, q1⟩
end
end L2
namespace L2
open PySem PySem.Spec PyProof.Rows
def SqL (K : PySem.W.Frag) (H : Hp) (a : Addr) (xs : List V) : Prop :=
  Rd H a (.lst xs) ∨
    ∃ (o : Obj) (its : Array Value) (n : Nat), K.lookup a = some o ∧ o.cls = .type "list" ∧ o.dict = none ∧ o.data = .seq its n ∧ its.size ≤ sizeLine ∧ Vals xs its.toList
def SqT (K : PySem.W.Frag) (H : Hp) (a : Addr) (xs : List V) : Prop :=
  Rd H a (.tup xs) ∨
    ∃ (o : Obj) (its : Array Value) (n : Nat), K.lookup a = some o ∧ o.cls = .type "tuple" ∧ o.data = .seq its n ∧ its.size ≤ sizeLine ∧ Vals xs its.toList
def absV : Value → Option V
  | .none => some .non
  | .bool b => some (.bl b)
  | .int i _ => some (.int i)
  | .str x _ => some (.str x)
  | .bytes b _ => some (.byt b)
  | .float b _ => some (.flt b)
  | .ref a => some (.ref a)
  | .type n => some (.ty n)
  | _ => none
theorem RelV.abs {x : V} {u : Value} (r : RelV x u) : absV u = some x := by
  cases x with
  | non => cases r; rfl
  | bl _ => cases r; rfl
  | int _ => obtain ⟨t, rfl⟩ := r; rfl
  | str _ => obtain ⟨t, rfl⟩ := r; rfl
  | byt _ => obtain ⟨t, rfl⟩ := r; rfl
  | flt _ => obtain ⟨t, rfl⟩ := r; rfl
  | ref _ => cases r; rfl
  | ty _ => cases r; rfl
theorem RelV.inj {x y : V} {u : Value} (r : RelV x u) (q : RelV y u) : x = y := Option.some.inj (r.abs.symm.trans q.abs)
theorem Vals.inj : ∀ {xs ys : List V} {us : List Value}, Vals xs us → Vals ys us → xs = ys
  | _, _, _, .nil, .nil => rfl
  | _, _, _, .cons r t, .cons r' t' => by rw [r.inj r', Vals.inj t t']
section
variable {X : Cx} {pins : List (Addr × Obj)} {σ : St} {H : Hp} {s : Shared} {a : Addr} {xs ys : List V}
theorem SqL.of {K : PySem.W.Frag} (h : H a = some (.lst xs)) : SqL K H a xs := .inl (.inl h)
theorem SqT.of {K : PySem.W.Frag} (h : H a = some (.tup xs)) : SqT K H a xs := .inl (.inl h)
theorem Inv.list (I : Inv X pins σ H s) (h : SqL X.K H a xs) : ∃ its : List Value, Vals xs its ∧ PlainL s.heap a its.toArray ∧ xs.length ≤ sizeLine := by
  rcases h with h | ⟨o, its, n, hk, hc, hd, hs, hz, r⟩
  · obtain ⟨z, its, n, r, e⟩ := h.ok I.hok
    exact ⟨its, r, ⟨_, n, e, rfl, rfl, rfl⟩, z⟩
  · refine ⟨its.toList, r, ⟨o, n, I.kIn a o hk, hc, hd, by simpa using hs⟩, ?_⟩
    have e := r.length
    simp only [Array.length_toList] at e
    omega
theorem Inv.tuple (I : Inv X pins σ H s) (h : SqT X.K H a xs) : ∃ its : List Value, Vals xs its ∧ IsTup s.heap a its.toArray ∧ xs.length ≤ sizeLine := by
  rcases h with h | ⟨o, its, n, hk, hc, hs, hz, r⟩
  · obtain ⟨z, its, r, p⟩ := h.ok I.hok
    exact ⟨its, r, p, z⟩
  · refine ⟨its.toList, r, ⟨o, I.kIn a o hk, hc, n, by simpa using hs⟩, ?_⟩
    have e := r.length
    simp only [Array.length_toList] at e
    omega
theorem Inv.list_inj (I : Inv X pins σ H s) (h : SqL X.K H a xs) (h' : SqL X.K H a ys) : xs = ys := by
  obtain ⟨its, r, ⟨o, n, e, _, _, d⟩, _⟩ := I.list h
  obtain ⟨its', r', ⟨o', n', e', _, _, d'⟩, _⟩ := I.list h'
  rw [e] at e'; cases e'
  rw [d] at d'
  injection d' with d1 _
  have : its = its' := by simpa using congrArg Array.toList d1
  subst this
  exact r.inj r'
theorem Inv.tuple_inj (I : Inv X pins σ H s) (h : SqT X.K H a xs) (h' : SqT X.K H a ys) : xs = ys := by
  obtain ⟨its, r, ⟨o, e, _, n, d⟩, _⟩ := I.tuple h
  obtain ⟨its', r', ⟨o', e', _, n', d'⟩, _⟩ := I.tuple h'
  rw [e] at e'; cases e'
  rw [d] at d'
  injection d' with d1 _
  have : its = its' := by simpa using congrArg Array.toList d1
  subst this
  exact r.inj r'
end
abbrev Cx.wish (X : Cx) (E : Value → Shared → Prop) : Cx := { X with xe := E }
/-- no exception leaves -/
abbrev Cx.nox (X : Cx) : Cx := X.wish fun _ _ => False
theorem Cx.Ok.wish {X : Cx} (ok : X.Ok) (E : Value → Shared → Prop) : (X.wish E).Ok :=
  ⟨ok.mod, ok.kind, ok.glob, ok.blt, ok.above, ok.inj, ok.has, ok.cab, ok.hd, ok.frames, ok.stk, ok.exf, ok.bs, ok.bsz, ok.noex, ok.exfs, ok.funs, ok.frf⟩
theorem Cx.Ok.unwish {X : Cx} {E : Value → Shared → Prop} (ok : (X.wish E).Ok) : X.Ok :=
  ⟨ok.mod, ok.kind, ok.glob, ok.blt, ok.above, ok.inj, ok.has, ok.cab, ok.hd, ok.frames, ok.stk, ok.exf, ok.bs, ok.bsz, ok.noex, ok.exfs, ok.funs, ok.frf⟩
section
variable {X : Cx} {pins : List (Addr × Obj)} {σ : St} {H : Hp} {s : Shared} {E : Value → Shared → Prop}
theorem Inv.wish (I : Inv X pins σ H s) (E : Value → Shared → Prop) : Inv (X.wish E) pins σ H s := ⟨I.ok.wish E, I.os, I.bare, I.base, I.loc, I.cell, I.free, I.freeC, I.pin, I.hok, I.len⟩
theorem Inv.unwish (I : Inv (X.wish E) pins σ H s) : Inv X pins σ H s := ⟨I.ok.unwish, I.os, I.bare, I.base, I.loc, I.cell, I.free, I.freeC, I.pin, I.hok, I.len⟩
theorem SP.unwish {D : Ends} {f : Flow} {s' : Shared} (h : SP (X.wish E) pins D f s') : SP X pins D f s' := by
  cases f with
  | next => obtain ⟨σ', H', I, q⟩ := h; exact ⟨σ', H', I.unwish, q⟩
  | brk => obtain ⟨σ', H', I, q⟩ := h; exact ⟨σ', H', I.unwish, q⟩
  | cont => obtain ⟨σ', H', I, q⟩ := h; exact ⟨σ', H', I.unwish, q⟩
  | ret u => obtain ⟨v, σ', H', I, r, q⟩ := h; exact ⟨v, σ', H', I.unwish, r, q⟩
theorem PE.nox {e : Expr} {t : TE} (h : PE X.nox e t) : PE X e t := fun pins s σ H Q I hw =>
  wpAny_mono (h pins s σ H Q (I.wish _) hw) (fun _ _ ⟨v, H', I', r, q⟩ => ⟨v, H', I'.unwish, r, q⟩) fun _ _ z => False.elim z
theorem PT.nox {e : Expr} {t : TT} (h : PT X.nox e t) : PT X e t := fun pins s σ H Q I hw =>
  wpAny_mono (h pins s σ H Q (I.wish _) hw) (fun _ _ ⟨H', I', q⟩ => ⟨H', I'.unwish, q⟩) fun _ _ z => False.elim z
theorem PSs.nox {st : List Stmt} {t : TS} (h : PSs X.nox st t) : PSs X st t := fun pins s σ H D I hw =>
  wpAny_mono (h pins s σ H D (I.wish _) hw) (fun _ _ q => q.unwish) fun _ _ z => False.elim z
end
section
variable {X : Cx} {st : Stmt} {rest : List Stmt} {t u : TS} {e : Expr} {te : TE} {pos : Pos}
def tNext : TS := fun D σ H => D.nx σ H
def tSeq (t u : TS) : TS := fun D σ H => t { D with nx := u D } σ H
theorem pss_nil : PSs X [] tNext := fun _ _ σ H _ I h => wpAny_execs_nil ⟨σ, H, I, h⟩
theorem pss_cons (h1 : PS X st t) (h2 : PSs X rest u) : PSs X (st :: rest) (tSeq t u) := by
  intro pins s σ H D I h
  refine wpAny_execs_cons (thn (h1 pins s σ H { D with nx := u D } I h) fun f s1 q => ?_)
  cases f with
  | next =>
    obtain ⟨σ', H', I', q⟩ := q
    exact h2 pins s1 σ' H' D I' q
  | ret v => exact q
  | brk => exact q
  | cont => exact q
theorem pss_one (h1 : PS X st t) : PSs X [st] t := by
  intro pins s σ H D I h
  refine wpAny_execs_cons (thn (h1 pins s σ H D I h) fun f s1 q => ?_)
  cases f with
  | next => exact wpAny_execs_nil q
  | ret v => exact q
  | brk => exact q
  | cont => exact q
/-- in a def's body nothing is shown -/
theorem Inv.quiet {pins : List (Addr × Obj)} {σ : St} {H : Hp} {s : Shared} (I : Inv X pins σ H s) : interactive X.env = false := by simp [interactive, I.ok.kind]
/-- an expression whose value is dropped -/
def tDrop (te : TE) : TS := fun D σ H => te σ H fun _ H1 => D.nx σ H1
theorem ps_expr (he : PE X e te) (hs : swapsWith e none pos.line X.env = pure false := by rfl) : PS X (.Expr e pos) (tDrop te) := by
  intro pins s σ H D I h
  exact wpAny_Expr_any (thn (he pins s σ H _ I h) fun v s1 ⟨x, H1, I1, r1, q1⟩ => ⟨σ, H1, I1, q1⟩) I.quiet hs
def tRet (te : TE) : TS := fun D σ H => te σ H D.rt
theorem ps_ret (he : PE X e te) : PS X (.Return (some e) pos) (tRet te) := by
  intro pins s σ H D I h
  exact wpAny_Return_some (thn (he pins s σ H _ I h) fun v s1 ⟨x, H1, I1, r1, q1⟩ => ⟨x, σ, H1, I1, r1, q1⟩)
def tIfS (c : TT) (t u : TS) : TS := fun D σ H => c σ H fun b H1 => if b = true then t D σ H1 else u D σ H1
theorem ps_if {c : Expr} {a b : List Stmt} {tc : TT} (hc : PT X c tc) (ha : PSs X a t) (hb : PSs X b u) : PS X (.If c a b pos) (tIfS tc t u) := by
  intro pins s σ H D I h
  refine wpAny_If (thn (hc pins s σ H _ I h) fun d s1 ⟨H1, I1, q1⟩ => ?_)
  cases d with
  | true => exact ha pins s1 σ H1 D I1 q1
  | false => exact hb pins s1 σ H1 D I1 q1
end
abbrev TG := V → St → Hp → (St → Hp → Prop) → Prop
def PG (X : Cx) (target : Expr) (t : TG) : Prop :=
  ∀ (pins : List (Addr × Obj)) (s : Shared) (σ : St) (H : Hp) (v : V) (u : Value) (Q : St → Hp → Prop), Inv X pins σ H s → RelV v u → t v σ H Q →
    wpAny (model X.prog X.w) X.A (assign target X.env u) (fun _ s' => ∃ σ' H', Inv X pins σ' H' s' ∧ Q σ' H') X.xe s
/-- a op= b, by values -/
abbrev TIp := V → V → Hp → VK → Prop
def PIp (X : Cx) (op : Operator) (t : TIp) : Prop :=
  ∀ (pins : List (Addr × Obj)) (s : Shared) (σ : St) (H : Hp) (x y : V) (v u : Value) (Q : VK), Inv X pins σ H s → RelV x v → RelV y u → t x y H Q →
    wpAny (model X.prog X.w) X.A (inplaceOp op v u) (EP X pins σ Q) X.xe s
section
variable {X : Cx} {pos : Pos}
def gName (i : Nat) : TG := fun v σ H Q => Q (σ.set i (some v)) H
theorem pg_name {i : Nat} {x : Str} (hN : X.N.Nodup) (hi : X.N[i]? = some x) (hx : Loc X.env.scope x) (hf : X.fn x = true ∨ X.env.scope.names.lookup x = some .local := by first | exact .inl rfl | exact .inr rfl | assumption) : PG X (.Name x pos) (gName i) := by
  intro pins s σ H v u Q I r h
  exact wpAny_assign_Name (store_ok I hN hi hx r (fun s' I' => ⟨_, H, I', h⟩) hf)
/-- target = value -/
def tAsg (te : TE) (g : TG) : TS := fun D σ H => te σ H fun x H1 => g x σ H1 D.nx
/-- name = value -/
theorem ps_set {i : Nat} {x : Str} {e : Expr} {te : TE} {pos' : Pos} (hN : X.N.Nodup) (hi : X.N[i]? = some x) (hx : Loc X.env.scope x) (he : PE X e te) (hs : swapsWith e (some (.Name x pos')) pos.line X.env = pure false := by rfl) (hf : X.fn x = true ∨ X.env.scope.names.lookup x = some .local := by first | exact .inl rfl | exact .inr rfl | assumption) :
    PS X (.Assign [.Name x pos'] e pos) (tAsg te (gName i)) := by
  intro pins s σ H D I h
  refine wpAny_Assign_Name (thn (he pins s σ H _ I h) fun v s1 ⟨y, H1, I1, r1, q1⟩ => ?_) hs
  exact store_ok I1 hN hi hx r1 (fun s2 I2 => ⟨_, H1, I2, q1⟩) hf
/-- name op= e -/
def tAug (i : Nat) (te : TE) (ti : TIp) : TS := fun D σ H => ∃ x, σ[i]? = some (some x) ∧ te σ H fun y H1 => ti x y H1 fun z H2 => D.nx (σ.set i (some z)) H2
theorem ps_aug {i : Nat} {x : Str} {e : Expr} {te : TE} {op : Operator} {ti : TIp} {pos' : Pos} (hN : X.N.Nodup) (hi : X.N[i]? = some x) (hx : Loc X.env.scope x) (he : PE X e te) (ho : PIp X op ti) (hf : X.fn x = true ∨ X.env.scope.names.lookup x = some .local := by first | exact .inl rfl | exact .inr rfl | assumption) :
    PS X (.AugAssign (.Name x pos') op e pos) (tAug i te ti) := by
  intro pins s σ H D I h
  obtain ⟨v, e1, h⟩ := h
  obtain ⟨m, hn, hl⟩ := I.loc
  have vis : Vis X.env.scope x := by rcases hx with k | k; exact .inl k; exact .inr (.inl k)
  obtain ⟨u, r, l⟩ := hl i x v hi e1 vis
  refine wpAny_AugAssign_Name ?_
  have go : wpAny (model X.prog X.w) X.A (eval e X.env) (fun w s₂ => wpAny (model X.prog X.w) X.A (inplaceOp op u w) (fun r s₃ => wpAny (model X.prog X.w) X.A (storeName X.env x r) (fun _ => SP X pins D .next) X.xe s₃) X.xe s₂) X.xe s := by
    refine thn (he pins s σ H _ I h) fun w s1 ⟨y, H1, I1, r1, q1⟩ => ?_
    refine thn (ho pins s1 σ H1 v y u w _ I1 r r1 q1) fun z s2 ⟨zv, H2, I2, r2, q2⟩ => ?_
    exact store_ok I2 hN hi hx r2 (fun s3 I3 => ⟨_, H2, I3, q2⟩) hf
  rcases l with ⟨hk, hm⟩ | ⟨hk, c, hc, hcell⟩
  · exact wpAny_loadName_local I.ok.kind hk hn hm go
  · rcases hk with hk | hk
    · exact wpAny_loadName_cell I.ok.kind hk hc hcell go
    · rcases hx with k | k
      · have : X.env.scope.names.lookup x = some .free := hk
        rw [k] at this; cases this
      · have : X.env.scope.names.lookup x = some .free := hk
        rw [k] at this; cases this
/-- ints -/
def ipI (f : Int → Int → Int) : TIp := fun x y H Q => ∃ i j, x = .int i ∧ y = .int j ∧ Q (.int (f i j)) H
theorem ip_add : PIp X .Add (ipI fun i j => i + j) := by
  intro pins s σ H x y v u Q I r1 r2 h
  obtain ⟨i, j, e1, e2, q⟩ := h
  subst e1; subst e2
  obtain ⟨t, rfl⟩ := r1
  obtain ⟨t', rfl⟩ := r2
  exact iadd_int ⟨.int _, H, I.tok _, ⟨_, rfl⟩, q⟩
end
section
variable {X : Cx} {pos : Pos}
/-- the invariant W with its measure -/
def tWhile (c : TT) (tb : TS) : TS := fun D σ H => ∃ W : Nat → St → Hp → Prop, (∃ m, W m σ H) ∧ ∀ m σ H, W m σ H →
  c σ H fun b H1 => if b = true then ∃ N : St → Hp → Prop, (∀ σ' H', N σ' H' → ∃ m', m' < m ∧ W m' σ' H') ∧ tb { D with nx := N, ct := N, bk := D.nx } σ H1 else D.nx σ H1
theorem ps_while {c : Expr} {body : List Stmt} {tc : TT} {tb : TS} (hp : PassesOwn (model X.prog X.w) X.A X.env X.xe) (hc : PT X c tc) (hb : PSs X body tb) : PS X (.While c body [] pos) (tWhile tc tb) := by
  intro pins s σ H D I h
  obtain ⟨W, ⟨m0, w0⟩, turn⟩ := h
  refine wpAny_While (codeAny_whileLoop (fun n s' => ∃ σ' H', Inv X pins σ' H' s' ∧ W n σ' H') ?_ m0 ⟨σ, H, I, w0⟩)
  rintro n s1 ⟨σ1, H1, I1, w1⟩
  refine wpAny_passesOwn hp (thn (hc pins s1 σ1 H1 _ I1 (turn n σ1 H1 w1)) fun b s2 ⟨H2, I2, q2⟩ => ?_)
  cases b with
  | true =>
    obtain ⟨N, hN, q2⟩ := q2
    rw [if_pos rfl]
    refine wpAny_passesOwn hp (thn (hb pins s2 σ1 H2 _ I2 q2) fun f s3 q3 => ?_)
    cases f with
    | next =>
      obtain ⟨σ3, H3, I3, n3⟩ := q3
      obtain ⟨m', hm, w3⟩ := hN σ3 H3 n3
      exact ⟨m', hm, σ3, H3, I3, w3⟩
    | cont =>
      obtain ⟨σ3, H3, I3, n3⟩ := q3
      obtain ⟨m', hm, w3⟩ := hN σ3 H3 n3
      exact ⟨m', hm, σ3, H3, I3, w3⟩
    | brk => exact q3
    | ret v => exact q3
  | false =>
    rw [if_neg Bool.false_ne_true]
    exact wpAny_execs_nil ⟨σ1, H2, I2, q2⟩
end
/-- at turn i: it yields x (the heap may grow), or it stops -/
structure It where
  go : Nat → Hp → Prop
  yld : Nat → Hp → V → Hp → Prop
  stop : Nat → Hp → Prop
/-- the iterator's own objects may turn: they are not the frame's, not pinned, younger than the entry (or a comprehension's own) -/
def FpOk (X : Cx) (pins : List (Addr × Obj)) (H : Hp) (b : Addr) : Prop :=
  H b = none ∧ b ≠ X.env.locals ∧ b ∉ X.fs ∧ (b ∈ X.ex ∨ X.s_0.heap.objs.size ≤ b) ∧ (∀ x c, X.env.cells.lookup x = some c → c ≠ b) ∧ ∀ p ∈ X.pn ++ pins, p.1 ≠ b
theorem Inv.fpOk {X : Cx} {pins : List (Addr × Obj)} {σ : St} {H H' : Hp} {s : Shared} {b : Addr} (I : Inv X pins σ H s) (hb : s.heap.objs.size ≤ b) (hn : H' b = none) : FpOk X pins H' b := by
  refine ⟨hn, Nat.ne_of_gt (Nat.lt_of_lt_of_le I.lt hb), I.nofs hb, .inr (Nat.le_trans I.sz hb), fun x c e z => ?_, fun p hp z => ?_⟩
  · obtain ⟨v, q⟩ := I.cell x c e
    exact absurd (Nat.lt_of_lt_of_le q.lt (by rw [z]; exact hb)) (Nat.lt_irrefl _)
  · exact absurd (Nat.lt_of_lt_of_le (Heap.lt_size (I.pin p hp).1) (by rw [z]; exact hb)) (Nat.lt_irrefl _)
structure Turn (P : Program) (w : World) (K : PySem.W.Frag) (tg : Expr) (J : It) (fp : List Addr) (it : Addr) (tn : Nat → Heap → Prop) : Prop where
  mem : it ∈ fp
  obj : ∀ i h, tn i h → ∀ b ∈ fp, ∃ o, h.get? b = some o ∧ ∀ v, o.data ≠ .cell v
  keep : ∀ i h h', tn i h → (∀ b ∈ fp, ∀ o, h.get? b = some o → h'.get? b = some o) → tn i h'
  item : ∀ (X : Cx), X.prog = P → X.w = w → X.K = K → X.calm = true → ∀ (i : Nat) (pins : List (Addr × Obj)) (s : Shared) (σ : St) (H : Hp) (E : Value → Shared → Prop), Inv X pins σ H s → (∀ b ∈ fp, FpOk X pins H b) → tn i s.heap → J.go i H →
    wpAny (model P w) X.A (pyNext (.ref it)) (fun r s1 => ∃ u, r = some u ∧
      wpAny (model P w) X.A (letOwnedTupleGo tg (.ref it) u) (fun _ s2 => ∃ x H', Inv X pins σ H' s2 ∧ RelV x u ∧ J.yld i H x H' ∧ tn (i + 1) s2.heap ∧ ∀ b ∈ fp, H' b = none) E s1) E s
  done : ∀ (X : Cx), X.prog = P → X.w = w → X.K = K → X.calm = true → ∀ (i : Nat) (pins : List (Addr × Obj)) (s : Shared) (σ : St) (H : Hp) (E : Value → Shared → Prop), Inv X pins σ H s → (∀ b ∈ fp, FpOk X pins H b) → tn i s.heap → J.stop i H →
    wpAny (model P w) X.A (pyNext (.ref it)) (fun r s1 => r = none ∧ Inv X pins σ H s1) E s
  self : ∀ (A : Around) (i : Nat) (s : Shared) (Q : Value → Shared → Prop) (E : Value → Shared → Prop), tn i s.heap → Q (.ref it) s → wpAny (model P w) A (pyIter (.ref it)) Q E s
abbrev TI := St → Hp → (It → Hp → Prop) → Prop
/-- an iterator has come -/
def PIE (X : Cx) (pins : List (Addr × Obj)) (σ : St) (tg : Expr) (R : It → Hp → Prop) (itv : Value) (s2 : Shared) : Prop :=
  ∃ (it : Addr) (fp : List Addr) (tn : Nat → Heap → Prop) (J : It) (H' : Hp), itv = .ref it ∧ Inv X pins σ H' s2 ∧ Turn X.prog X.w X.K tg J fp it tn ∧ tn 0 s2.heap ∧ (∀ b ∈ fp, FpOk X pins H' b) ∧ R J H'
def PI (X : Cx) (tg iter : Expr) (wi : TI) : Prop :=
  ∀ (pins : List (Addr × Obj)) (s : Shared) (σ : St) (H : Hp) (R : It → Hp → Prop), Inv X pins σ H s → wi σ H R →
    wpAny (model X.prog X.w) X.A (eval iter X.env) (fun v s1 => wpAny (model X.prog X.w) X.A (pyIter v) (PIE X pins σ tg R) X.xe s1) X.xe s
/-- the step ahead of the store is nothing for an iterator that keeps no tuple -/
theorem go_of {M : Model} {A : Around} {E : Value → Shared → Prop} {s : Shared} {tg : Expr} {it : Addr} {u : Value} {o : Obj} {n : String} {vs : Array Value} {Q : Unit → Shared → Prop} (ho : s.heap.get? it = some o) (hc : o.cls = .type n) (hd : o.data = .fields vs)
    (hn : ["enumerate", "zip", "dict_itemiterator", "dict_reverseitemiterator", "odict_iterator", "itertools.zip_longest", "itertools.pairwise"].contains n = false) (hQ : Q () s) : wpAny M A (letOwnedTupleGo tg (.ref it) u) Q E s := by
  unfold letOwnedTupleGo
  cases tg <;> first
    | exact wpAny_pure hQ
    | (cases u <;> first
        | exact wpAny_pure hQ
        | (refine wpAny_bind (wpAny_load ho ?_)
           rw [hc, hd]
           show wpAny M A (if (["enumerate", "zip", "dict_itemiterator", "dict_reverseitemiterator", "odict_iterator", "itertools.zip_longest", "itertools.pairwise"].contains n && vs[0]? == some (rawInt _)) = true then _ else _) Q E s
           rw [if_neg (by intro h; rw [hn, Bool.false_and] at h; cases h)]
           exact wpAny_pure hQ))
/-- the list at a, as it stands at each turn (a loop may append to it) -/
def Itl (K : PySem.W.Frag) (a : Addr) : It :=
  ⟨fun i H => ∃ xs x, SqL K H a xs ∧ xs[i]? = some x, fun i H x H' => H' = H ∧ ∀ xs, SqL K H a xs → xs[i]? = some x, fun i H => ∃ xs, SqL K H a xs ∧ xs.length ≤ i⟩
def Itt (K : PySem.W.Frag) (a : Addr) : It :=
  ⟨fun i H => ∃ xs x, SqT K H a xs ∧ xs[i]? = some x, fun i H x H' => H' = H ∧ ∀ xs, SqT K H a xs → xs[i]? = some x, fun i H => ∃ xs, SqT K H a xs ∧ xs.length ≤ i⟩
theorem turn_list {P : Program} {w : World} {K : PySem.W.Frag} {tg : Expr} (a it : Addr) : Turn P w K tg (Itl K a) [it] it (fun i h => h.IsListIter it a i) where
  mem := by simp
  obj := fun i h st b hb => by
    have e : b = it := by simpa using hb
    subst e
    obtain ⟨o, e, c, d⟩ := st
    exact ⟨o, e, fun v z => by rw [d] at z; cases z⟩
  keep := fun i h h' st k => st.at fun o e => k it (by simp) o e
  item := by
    intro X hP hw hK hc i pins s σ H E I hf st hg
    subst hP hw hK
    obtain ⟨xs, x, hq, hx⟩ := hg
    obtain ⟨its, rv, p, hz⟩ := I.list hq
    obtain ⟨u, hu, ru⟩ := rv.get hx
    obtain ⟨f0, f1, f2, f3, f4, f5⟩ := hf it (by simp)
    refine wpAny_pyNext_list_item st p.isList (x := u) (by simpa using hu) fun h' st' sb => ?_
    have I1 : Inv X pins σ H { s with heap := h' } := I.turned (t' := s.toks) (fun b o hb e => (sb.2 b hb).trans e) f0 f1 f3 f4 f5
    obtain ⟨o, e, c, d⟩ := id st'
    exact ⟨u, rfl, go_of (s := { s with heap := h' }) e c d (by decide) ⟨x, H, I1, ru, ⟨rfl, fun ys hy => by rw [I.list_inj hy hq]; exact hx⟩, st', fun b hb => (hf b hb).1⟩⟩
  done := by
    intro X hP hw hK hc i pins s σ H E I hf st hg
    subst hP hw hK
    obtain ⟨xs, hq, hx⟩ := hg
    obtain ⟨its, rv, p, hz⟩ := I.list hq
    obtain ⟨f0, f1, f2, f3, f4, f5⟩ := hf it (by simp)
    have hl := rv.length
    exact wpAny_pyNext_list_end (I.ok.hd hc) st p.isList (by simp; omega) fun h' eb => ⟨rfl, I.turned (t' := s.toks) (fun b o hb e => eb b o hb e) f0 f1 f3 f4 f5⟩
  self := fun _ _ _ _ _ st h => wpAny_pyIter_listiter st h
theorem turn_tuple {P : Program} {w : World} {K : PySem.W.Frag} {tg : Expr} (a it : Addr) : Turn P w K tg (Itt K a) [it] it (fun i h => h.IsTupleIter it a i) where
  mem := by simp
  obj := fun i h st b hb => by
    have e : b = it := by simpa using hb
    subst e
    obtain ⟨o, e, c, d⟩ := st
    exact ⟨o, e, fun v z => by rw [d] at z; cases z⟩
  keep := fun i h h' st k => st.at fun o e => k it (by simp) o e
  item := by
    intro X hP hw hK hc i pins s σ H E I hf st hg
    subst hP hw hK
    obtain ⟨xs, x, hq, hx⟩ := hg
    obtain ⟨its, rv, p, hz⟩ := I.tuple hq
    obtain ⟨u, hu, ru⟩ := rv.get hx
    obtain ⟨f0, f1, f2, f3, f4, f5⟩ := hf it (by simp)
    refine wpAny_pyNext_tuple_item st (show s.heap.IsTuple a its.toArray from p) (x := u) (by simpa using hu) fun h' st' sb => ?_
    have I1 : Inv X pins σ H { s with heap := h' } := I.turned (t' := s.toks) (fun b o hb e => (sb.2 b hb).trans e) f0 f1 f3 f4 f5
    obtain ⟨o, e, c, d⟩ := id st'
    exact ⟨u, rfl, go_of (s := { s with heap := h' }) e c d (by decide) ⟨x, H, I1, ru, ⟨rfl, fun ys hy => by rw [I.tuple_inj hy hq]; exact hx⟩, st', fun b hb => (hf b hb).1⟩⟩
  done := by
    intro X hP hw hK hc i pins s σ H E I hf st hg
    subst hP hw hK
    obtain ⟨xs, hq, hx⟩ := hg
    obtain ⟨its, rv, p, hz⟩ := I.tuple hq
    obtain ⟨f0, f1, f2, f3, f4, f5⟩ := hf it (by simp)
    have hl := rv.length
    exact wpAny_pyNext_tuple_end (I.ok.hd hc) st (show s.heap.IsTuple a its.toArray from p) (by simp; omega) fun h' eb => ⟨rfl, I.turned (t' := s.toks) (fun b o hb e => eb b o hb e) f0 f1 f3 f4 f5⟩
  self := fun _ _ _ _ _ st h => wpAny_pyIter_tupleiter st h
end L2
namespace L2
open PySem PySem.Spec PyProof.Rows
section
variable {X : Cx} {tg : Expr}
def iList (K : PySem.W.Frag) (tl : TE) : TI := fun σ H R => tl σ H fun x H1 => ∃ a, x = .ref a ∧ (∃ xs, SqL K H1 a xs) ∧ R (Itl K a) H1
def iTup (K : PySem.W.Frag) (tl : TE) : TI := fun σ H R => tl σ H fun x H1 => ∃ a, x = .ref a ∧ (∃ xs, SqT K H1 a xs) ∧ R (Itt K a) H1
theorem pi_list {l : Expr} {tl : TE} (hl : PE X l tl) : PI X tg l (iList X.K tl) := by
  intro pins s σ H R I h
  refine thn (hl pins s σ H _ I h) fun v s1 ⟨x, H1, I1, r1, q1⟩ => ?_
  obtain ⟨a, e, ⟨xs, hq⟩, q⟩ := q1
  subst e
  cases r1
  obtain ⟨its, rv, p, hz⟩ := I1.list hq
  refine wpAny_pyIter_list p.isList ?_
  refine ⟨s1.heap.objs.size, [s1.heap.objs.size], _, _, H1, rfl, I1.kept (t' := s1.toks) fun b o e => Heap.get?_push_of_some _ e, turn_list a _, ⟨_, Heap.get?_push_size _ rfl, rfl, rfl⟩, fun b hb => ?_, q⟩
  have e : b = s1.heap.objs.size := by simpa using hb
  subst e
  exact I1.fpOk (Nat.le_refl _) (I1.hok.fresh (Nat.le_refl _))
theorem pi_tup {l : Expr} {tl : TE} (hl : PE X l tl) : PI X tg l (iTup X.K tl) := by
  intro pins s σ H R I h
  refine thn (hl pins s σ H _ I h) fun v s1 ⟨x, H1, I1, r1, q1⟩ => ?_
  obtain ⟨a, e, ⟨xs, hq⟩, q⟩ := q1
  subst e
  cases r1
  obtain ⟨its, rv, p, hz⟩ := I1.tuple hq
  refine wpAny_pyIter_tuple (show s1.heap.IsTuple a its.toArray from p) ?_
  refine ⟨s1.heap.objs.size, [s1.heap.objs.size], _, _, H1, rfl, I1.kept (t' := s1.toks) fun b o e => Heap.get?_push_of_some _ e, turn_tuple a _, ⟨_, Heap.get?_push_size _ rfl, rfl, rfl⟩, fun b hb => ?_, q⟩
  have e : b = s1.heap.objs.size := by simpa using hb
  subst e
  exact I1.fpOk (Nat.le_refl _) (I1.hok.fresh (Nat.le_refl _))
/-- W: the invariant by the turn and a measure; N: what the body is to reach -/
def tFor (wi : TI) (g : TG) (tb : TS) : TS := fun D σ H => wi σ H fun J H1 => ∃ W : Nat → Nat → St → Hp → Prop, (∃ m, W 0 m σ H1) ∧ ∀ i m σ H, W i m σ H →
  (J.stop i H ∧ D.nx σ H) ∨ (J.go i H ∧ ∃ N : St → Hp → Prop, (∀ σ' H', N σ' H' → ∃ m', m' < m ∧ W (i + 1) m' σ' H') ∧ ∀ x H', J.yld i H x H' → g x σ H' fun σ2 H2 => tb { D with nx := N, ct := N, bk := D.nx } σ2 H2)
/-- the records at fp as they stand -/
def pinsAt (fp : List Addr) (h : Heap) : List (Addr × Obj) := fp.filterMap fun b => (h.get? b).map fun o => (b, o)
theorem mem_pinsAt {fp : List Addr} {h : Heap} {b : Addr} {o : Obj} (hb : b ∈ fp) (e : h.get? b = some o) : (b, o) ∈ pinsAt fp h := List.mem_filterMap.mpr ⟨b, hb, by rw [e]; rfl⟩
theorem of_pinsAt {fp : List Addr} {h : Heap} {p : Addr × Obj} (hp : p ∈ pinsAt fp h) : p.1 ∈ fp ∧ h.get? p.1 = some p.2 := by
  obtain ⟨b, hb, e⟩ := List.mem_filterMap.mp hp
  cases q : h.get? b with
  | none => rw [q] at e; cases e
  | some o =>
    rw [q] at e
    have e' : (b, o) = p := Option.some.inj e
    subst e'
    exact ⟨hb, q⟩
theorem Inv.pinned {pins : List (Addr × Obj)} {σ : St} {H : Hp} {s : Shared} {fp : List Addr} (I : Inv X pins σ H s) (hf : ∀ b ∈ fp, FpOk X pins H b) (ho : ∀ b ∈ fp, ∃ o, s.heap.get? b = some o ∧ ∀ v, o.data ≠ .cell v) : Inv X (pins ++ pinsAt fp s.heap) σ H s :=
  I.pins_of fun p hp => (List.mem_append.mp hp).elim (fun z => I.pin p (List.mem_append_right _ z)) fun z => by
    obtain ⟨hb, e⟩ := of_pinsAt z
    obtain ⟨f0, f1, f2, _⟩ := hf p.1 hb
    obtain ⟨o, e', d⟩ := ho p.1 hb
    rw [e] at e'; cases e'
    exact ⟨e, f0, f1, f2, d⟩
theorem Inv.unpinned {pins pl : List (Addr × Obj)} {σ : St} {H : Hp} {s : Shared} (I : Inv X (pins ++ pl) σ H s) : Inv X pins σ H s := I.pins_of fun p hp => I.pin p (List.mem_append_right _ (List.mem_append_left _ hp))
theorem ps_for {iter : Expr} {body : List Stmt} {wi : TI} {g : TG} {tb : TS} {pos : Pos} (hp : PassesOwn (model X.prog X.w) X.A X.env X.xe) (hc : X.calm = true) (hi : PI X tg iter wi) (hg : PG X tg g) (hb : PSs X body tb)
    (hs : ∀ x, foldedSetIterable iter X.env x = pure x := by intro _; rfl) : PS X (.For tg iter body [] pos) (tFor wi g tb) := by
  intro pins s σ H D I h
  refine wpAny_For (thn (hi pins s σ H _ I h) fun v s1 h1 => thn h1 fun itv s2 h2 => ?_) hs
  obtain ⟨it, fp, tn, J, H2, e, I2, T, st2, f2, W, ⟨m0, w0⟩, turn⟩ := h2
  subst e
  -- what stays true of the iterator's objects through the loop
  have stat : ∀ {H' : Hp}, (∀ b ∈ fp, H' b = none) → ∀ b ∈ fp, FpOk X pins H' b := fun hn b hb => ⟨hn b hb, (f2 b hb).2⟩
  refine codeAny_forLoop_any (fun n s' => ∃ i σ' H', Inv X pins σ' H' s' ∧ tn i s'.heap ∧ (∀ b ∈ fp, H' b = none) ∧ W i n σ' H') ?_ m0 ⟨0, σ, H2, I2, st2, fun b hb => (f2 b hb).1, w0⟩
  rintro n s3 ⟨i, σ3, H3, I3, st3, fr3, w3⟩
  rcases turn i n σ3 H3 w3 with ⟨stop, qn⟩ | ⟨go, N, hN, step⟩
  · refine wpAny_passesOwn hp (thn (T.done X rfl rfl rfl hc i pins s3 σ3 H3 X.xe I3 (stat fr3) st3 stop) fun r s4 ⟨hr, I4⟩ => ?_)
    subst hr
    exact wpAny_execs_nil ⟨σ3, H3, I4, qn⟩
  · refine wpAny_passesOwn hp (thn (T.item X rfl rfl rfl hc i pins s3 σ3 H3 X.xe I3 (stat fr3) st3 go) fun r s4 ⟨u, hr, h4⟩ => ?_)
    subst hr
    refine wpAny_passesOwn hp (thn h4 fun _ s5 ⟨x, H5, I5, r5, y5, st5, fr5⟩ => ?_)
    have I5' := I5.pinned (stat fr5) (T.obj _ _ st5)
    refine wpAny_passesOwn hp (thn (hg _ s5 σ3 H5 x u _ I5' r5 (step x H5 y5)) fun _ s6 ⟨σ6, H6, I6, q6⟩ => ?_)
    refine wpAny_passesOwn hp (thn (hb _ s6 σ6 H6 _ I6 q6) fun f s7 q7 => ?_)
    have again : ∀ {σ7 : St} {H7 : Hp}, Inv X (pins ++ pinsAt fp s5.heap) σ7 H7 s7 → N σ7 H7 → ∃ m, m < n ∧ ∃ i σ' H', Inv X pins σ' H' s7 ∧ tn i s7.heap ∧ (∀ b ∈ fp, H' b = none) ∧ W i m σ' H' := fun {σ7 H7} I7 n7 => by
      obtain ⟨m', hm, w7⟩ := hN σ7 H7 n7
      refine ⟨m', hm, i + 1, σ7, H7, I7.unpinned, T.keep _ _ _ st5 fun b hb o e => (I7.pin (b, o) (List.mem_append_right _ (List.mem_append_right _ (mem_pinsAt hb e)))).1, fun b hb => ?_, w7⟩
      obtain ⟨o, e, d⟩ := T.obj _ _ st5 b hb
      exact (I7.pin (b, o) (List.mem_append_right _ (List.mem_append_right _ (mem_pinsAt hb e)))).2.1
    cases f with
    | next => obtain ⟨σ7, H7, I7, n7⟩ := q7; exact again I7 n7
    | cont => obtain ⟨σ7, H7, I7, n7⟩ := q7; exact again I7 n7
    | brk => obtain ⟨σ7, H7, I7, q7⟩ := q7; exact ⟨σ7, H7, I7.unpinned, q7⟩
    | ret v => obtain ⟨x7, σ7, H7, I7, r7, q7⟩ := q7; exact ⟨x7, σ7, H7, I7.unpinned, r7, q7⟩
end
/-- over a list that the body leaves as it is -/
theorem for_list {K : PySem.W.Frag} {a : Addr} {xs : List V} {g : TG} {tb : TS} {D : Ends} {σ : St} {H : Hp} (Pv : Nat → St → Hp → Prop) (h0 : Pv 0 σ H) (hl : ∀ i σ H, i ≤ xs.length → Pv i σ H → SqL K H a xs)
    (hs : ∀ i x σ H, xs[i]? = some x → Pv i σ H → g x σ H fun σ2 H2 => tb { D with nx := Pv (i + 1), ct := Pv (i + 1), bk := D.nx } σ2 H2) (hd : ∀ σ H, Pv xs.length σ H → D.nx σ H) :
    ∃ W : Nat → Nat → St → Hp → Prop, (∃ m, W 0 m σ H) ∧ ∀ i m σ H, W i m σ H →
      ((Itl K a).stop i H ∧ D.nx σ H) ∨ ((Itl K a).go i H ∧ ∃ N : St → Hp → Prop, (∀ σ' H', N σ' H' → ∃ m', m' < m ∧ W (i + 1) m' σ' H') ∧ ∀ x H', (Itl K a).yld i H x H' → g x σ H' fun σ2 H2 => tb { D with nx := N, ct := N, bk := D.nx } σ2 H2) := by
  refine ⟨fun i m σ H => m = xs.length - i ∧ i ≤ xs.length ∧ Pv i σ H, ⟨xs.length, by simp, Nat.zero_le _, h0⟩, ?_⟩
  rintro i m σ H ⟨rfl, hi, p⟩
  have q := hl i σ H hi p
  by_cases hlt : i < xs.length
  · refine .inr ⟨⟨xs, xs[i], q, by simp [hlt]⟩, Pv (i + 1), fun σ' H' p' => ⟨xs.length - (i + 1), by omega, rfl, hlt, p'⟩, fun x H' y => ?_⟩
    obtain ⟨e, y⟩ := y
    subst e
    exact hs i x σ _ (y xs q) p
  · have e : i = xs.length := by omega
    subst e
    exact .inl ⟨⟨xs, q, Nat.le_refl _⟩, hd σ H p⟩
theorem for_tup {K : PySem.W.Frag} {a : Addr} {xs : List V} {g : TG} {tb : TS} {D : Ends} {σ : St} {H : Hp} (Pv : Nat → St → Hp → Prop) (h0 : Pv 0 σ H) (hl : ∀ i σ H, i ≤ xs.length → Pv i σ H → SqT K H a xs)
    (hs : ∀ i x σ H, xs[i]? = some x → Pv i σ H → g x σ H fun σ2 H2 => tb { D with nx := Pv (i + 1), ct := Pv (i + 1), bk := D.nx } σ2 H2) (hd : ∀ σ H, Pv xs.length σ H → D.nx σ H) :
    ∃ W : Nat → Nat → St → Hp → Prop, (∃ m, W 0 m σ H) ∧ ∀ i m σ H, W i m σ H →
      ((Itt K a).stop i H ∧ D.nx σ H) ∨ ((Itt K a).go i H ∧ ∃ N : St → Hp → Prop, (∀ σ' H', N σ' H' → ∃ m', m' < m ∧ W (i + 1) m' σ' H') ∧ ∀ x H', (Itt K a).yld i H x H' → g x σ H' fun σ2 H2 => tb { D with nx := N, ct := N, bk := D.nx } σ2 H2) := by
  refine ⟨fun i m σ H => m = xs.length - i ∧ i ≤ xs.length ∧ Pv i σ H, ⟨xs.length, by simp, Nat.zero_le _, h0⟩, ?_⟩
  rintro i m σ H ⟨rfl, hi, p⟩
  have q := hl i σ H hi p
  by_cases hlt : i < xs.length
  · refine .inr ⟨⟨xs, xs[i], q, by simp [hlt]⟩, Pv (i + 1), fun σ' H' p' => ⟨xs.length - (i + 1), by omega, rfl, hlt, p'⟩, fun x H' y => ?_⟩
    obtain ⟨e, y⟩ := y
    subst e
    exact hs i x σ _ (y xs q) p
  · have e : i = xs.length := by omega
    subst e
    exact .inl ⟨⟨xs, q, Nat.le_refl _⟩, hd σ H p⟩
end L2
namespace L2
open PySem PySem.Spec PyProof.Rows
abbrev R2 := V → V → Hp → VK → Prop
/-- a two-place operation on values: f is binaryOp op, inplaceOp op or compareOp op -/
def OpR (X : Cx) (f : Value → Value → Sem Value) (r : R2) : Prop :=
  ∀ (pins : List (Addr × Obj)) (s : Shared) (σ : St) (H : Hp) (x y : V) (v u : Value) (Q : VK), Inv X pins σ H s → RelV x v → RelV y u → r x y H Q →
    wpAny (model X.prog X.w) X.A (f v u) (EP X pins σ Q) X.xe s
/-- a one-place operation -/
def UnR (X : Cx) (f : Value → Sem Value) (r : V → Hp → VK → Prop) : Prop :=
  ∀ (pins : List (Addr × Obj)) (s : Shared) (σ : St) (H : Hp) (x : V) (v : Value) (Q : VK), Inv X pins σ H s → RelV x v → r x H Q →
    wpAny (model X.prog X.w) X.A (f v) (EP X pins σ Q) X.xe s
/-- a call of a value that is known (a builtin, a type) with values -/
def CallR (X : Cx) (f : Value) (r : List V → Hp → VK → Prop) : Prop :=
  ∀ (pins : List (Addr × Obj)) (s : Shared) (σ : St) (H : Hp) (xs : List V) (us : List Value) (Q : VK), Inv X pins σ H s → Vals xs us → r xs H Q →
    wpAny (model X.prog X.w) X.A (call f us) (EP X pins σ Q) X.xe s
def tOp (r : R2) (ta tb : TE) : TE := fun σ H Q => ta σ H fun x H1 => tb σ H1 fun y H2 => r x y H2 Q
def tUn (r : V → Hp → VK → Prop) (ta : TE) : TE := fun σ H Q => ta σ H fun x H1 => r x H1 Q
/-- ints in, under C, and a value out -/
def rI (C : Int → Int → Prop) (g : Int → Int → V) : R2 := fun x y H Q => ∃ i j, x = .int i ∧ y = .int j ∧ C i j ∧ Q (g i j) H
def rI0 (g : Int → Int → V) : R2 := fun x y H Q => ∃ i j, x = .int i ∧ y = .int j ∧ Q (g i j) H
def rU (g : Int → V) : V → Hp → VK → Prop := fun x H Q => ∃ i, x = .int i ∧ Q (g i) H
section
variable {X : Cx} {a b c : Expr} {ta tb tc : TE} {pos : Pos}
theorem binT (ha : PE X a ta) (hb : PE X b tb) {pins : List (Addr × Obj)} {s : Shared} {σ : St} {H : Hp} {R : V → V → Hp → Prop} (I : Inv X pins σ H s)
    (h : ta σ H fun x H1 => tb σ H1 fun y H2 => R x y H2) {Q : Value → Shared → Prop} {f : Value → Value → Sem Value}
    (hf : ∀ v u s2 x y H2, Inv X pins σ H2 s2 → RelV x v → RelV y u → R x y H2 → wpAny (model X.prog X.w) X.A (f v u) Q X.xe s2) :
    wpAny (model X.prog X.w) X.A (eval a X.env) (fun v s₁ => wpAny (model X.prog X.w) X.A (eval b X.env) (fun u s₂ => wpAny (model X.prog X.w) X.A (f v u) Q X.xe s₂) X.xe s₁) X.xe s := by
  refine thn (ha pins s σ H _ I h) fun v s1 ⟨x, H1, I1, r1, q1⟩ => ?_
  refine thn (hb pins s1 σ H1 _ I1 q1) fun u s2 ⟨y, H2, I2, r2, q2⟩ => ?_
  exact hf v u s2 x y H2 I2 r1 r2 q2
theorem pe_op {op : Operator} {r : R2} (ho : OpR X (binaryOp op) r) (ha : PE X a ta) (hb : PE X b tb) : PE X (.BinOp a op b pos) (tOp r ta tb) := by
  intro pins s σ H Q I h
  exact wpAny_BinOp (binT ha hb I h fun v u s2 x y H2 I2 rx ry q => ho pins s2 σ H2 x y v u Q I2 rx ry q)
theorem pe_un {op : UnaryOp} {r : V → Hp → VK → Prop} (ho : UnR X (unaryOp op) r) (ha : PE X a ta) : PE X (.UnaryOp op a pos) (tUn r ta) := by
  intro pins s σ H Q I h
  exact UnaryOp_ (thn (ha pins s σ H _ I h) fun v s1 ⟨x, H1, I1, r1, q1⟩ => ho pins s1 σ H1 x v Q I1 r1 q1)
theorem opI {f : Value → Value → Sem Value} {C : Int → Int → Prop} {g : Int → Int → Int}
    (rule : ∀ (i j : Int) (t u : Tok) (s : Shared) (Q : Value → Shared → Prop) (E : Value → Shared → Prop), C i j → Q (.int (g i j) s.toks) { s with toks := s.toks + 1 } → wpAny (model X.prog X.w) X.A (f (.int i t) (.int j u)) Q E s) :
    OpR X f (rI C fun i j => .int (g i j)) := by
  intro pins s σ H x y v u Q I rx ry h
  obtain ⟨i, j, rfl, rfl, hc, q⟩ := h
  obtain ⟨t, rfl⟩ := rx
  obtain ⟨t', rfl⟩ := ry
  exact rule i j t t' s _ _ hc ⟨.int (g i j), H, I.tok _, ⟨_, rfl⟩, q⟩
theorem opI0 {f : Value → Value → Sem Value} {g : Int → Int → Int}
    (rule : ∀ (i j : Int) (t u : Tok) (s : Shared) (Q : Value → Shared → Prop) (E : Value → Shared → Prop), Q (.int (g i j) s.toks) { s with toks := s.toks + 1 } → wpAny (model X.prog X.w) X.A (f (.int i t) (.int j u)) Q E s) :
    OpR X f (rI0 fun i j => .int (g i j)) := by
  intro pins s σ H x y v u Q I rx ry h
  obtain ⟨i, j, rfl, rfl, q⟩ := h
  obtain ⟨t, rfl⟩ := rx
  obtain ⟨t', rfl⟩ := ry
  exact rule i j t t' s _ _ ⟨.int (g i j), H, I.tok _, ⟨_, rfl⟩, q⟩
theorem opB0 {f : Value → Value → Sem Value} {g : Int → Int → Bool}
    (rule : ∀ (i j : Int) (t u : Tok) (s : Shared) (Q : Value → Shared → Prop) (E : Value → Shared → Prop), Q (.bool (g i j)) s → wpAny (model X.prog X.w) X.A (f (.int i t) (.int j u)) Q E s) :
    OpR X f (rI0 fun i j => .bl (g i j)) := by
  intro pins s σ H x y v u Q I rx ry h
  obtain ⟨i, j, rfl, rfl, q⟩ := h
  obtain ⟨t, rfl⟩ := rx
  obtain ⟨t', rfl⟩ := ry
  exact rule i j t t' s _ _ ⟨.bl (g i j), H, I, rfl, q⟩
def CDiv (i j : Int) : Prop := 0 < j ∧ j < 1073741824
def CMul (i j : Int) : Prop := (-(2 ^ 64) < i ∧ i < 2 ^ 64) ∨ (-(2 ^ 64) < j ∧ j < 2 ^ 64)
theorem CMul.ok {i j : Int} (h : CMul i j) : IntMulOk i j := by
  rcases h with ⟨h1, h2⟩ | ⟨h1, h2⟩
  · exact .of_left (intBits_le_64 h1 h2)
  · exact .of_right (intBits_le_64 h1 h2)
theorem op_add : OpR X (binaryOp .Add) (rI0 fun i j => .int (i + j)) := opI0 fun _ _ _ _ _ _ _ q => add_int q
theorem op_sub : OpR X (binaryOp .Sub) (rI0 fun i j => .int (i - j)) := opI0 fun _ _ _ _ _ _ _ q => sub_int q
theorem op_mul : OpR X (binaryOp .Mult) (rI CMul fun i j => .int (i * j)) := opI fun _ _ _ _ _ _ _ hc q => mul_int q hc.ok
/-- // by a positive divisor -/
theorem op_fdiv : OpR X (binaryOp .FloorDiv) (rI CDiv fun i j => .int (i / j)) := opI fun i j _ _ _ _ _ hc q => by
  have h1 : (0 : Int) < j := hc.1
  have h2 : j < 1073741824 := hc.2
  exact floordiv_int (by omega) (by rw [Int.fdiv_eq_ediv_of_nonneg i (by omega)]; exact q) (.inl (PyProof.noPylong_small (by omega)))
/-- % by a positive divisor of any size -/
theorem op_mod : OpR X (binaryOp .Mod) (rI (fun _ j => 0 < j) fun i j => .int (i % j)) := opI fun i j _ _ _ _ _ hc q => by
  have h1 : (0 : Int) < j := hc
  exact mod_int' (by omega) (by rw [Int.fmod_eq_emod_of_nonneg i (by omega)]; exact q)
theorem unI {f : Value → Sem Value} {g : Int → Int}
    (rule : ∀ (i : Int) (t : Tok) (s : Shared) (Q : Value → Shared → Prop) (E : Value → Shared → Prop), Q (.int (g i) s.toks) { s with toks := s.toks + 1 } → wpAny (model X.prog X.w) X.A (f (.int i t)) Q E s) :
    UnR X f (rU fun i => .int (g i)) := by
  intro pins s σ H x v Q I rx h
  obtain ⟨i, rfl, q⟩ := h
  obtain ⟨t, rfl⟩ := rx
  exact rule i t s _ _ ⟨.int (g i), H, I.tok _, ⟨_, rfl⟩, q⟩
theorem un_neg : UnR X (unaryOp .USub) (rU fun i => .int (-i)) := unI fun _ _ _ _ _ q => neg_int q
end
/-- the scalars that == tells apart as data does -/
def scal : V → V → Bool
  | .non, .non => true | .non, .int _ => true | .int _, .non => true | .non, .bl _ => true | .bl _, .non => true | .non, .str _ => true | .str _, .non => true
  | .int _, .int _ => true | .bl _, .bl _ => true | .str _, .str _ => true | .byt _, .byt _ => true
  | .int _, .str _ => true | .str _, .int _ => true | .bl _, .str _ => true | .str _, .bl _ => true
  | _, _ => false
def rEq : R2 := fun x y H Q => scal x y = true ∧ Q (.bl (decide (x = y))) H
def rNe : R2 := fun x y H Q => scal x y = true ∧ Q (.bl (!decide (x = y))) H
theorem dec_int {i j : Int} : decide (V.int i = V.int j) = (i == j) := by
  rw [Bool.eq_iff_iff]
  simp
theorem dec_bl {i j : Bool} : decide (V.bl i = V.bl j) = (i == j) := by
  rw [Bool.eq_iff_iff]
  simp
theorem dec_str {i j : Str} : decide (V.str i = V.str j) = (i == j) := by
  rw [Bool.eq_iff_iff]
  simp
theorem dec_byt {i j : Array UInt8} : decide (V.byt i = V.byt j) = (i.toList == j.toList) := by
  rw [Bool.eq_iff_iff]
  cases i
  cases j
  simp
section
variable {X : Cx} {a b c : Expr} {ta tb tc : TE} {pos : Pos}
theorem fin_bl {pins : List (Addr × Obj)} {σ : St} {H : Hp} {s : Shared} {Q : VK} {k k' : Bool} (I : Inv X pins σ H s) (q : Q (.bl k) H) (e : k = k') : EP X pins σ Q (.bool k') s := by
  subst e
  exact ⟨.bl k, H, I, rfl, q⟩
theorem op_eq : OpR X (compareOp .Eq) rEq := by
  intro pins s σ H x y v u Q I rx ry h
  obtain ⟨hs, q⟩ := h
  cases x with
  | non =>
    cases rx
    cases y with
    | non => cases ry; exact PySem.EqNone.eq_none_none (fin_bl I q (by simp))
    | bl j => cases ry; exact PySem.EqNone.eq_none_bool (fin_bl I q (by simp))
    | int j => obtain ⟨t', rfl⟩ := ry; exact PySem.EqNone.eq_none_int (fin_bl I q (by simp))
    | str j => obtain ⟨t', rfl⟩ := ry; exact PySem.EqNone.eq_none_str (fin_bl I q (by simp))
    | _ => exact absurd (show false = true from hs) Bool.false_ne_true
  | bl i =>
    cases rx
    cases y with
    | non => cases ry; exact PySem.EqNone.eq_bool_none (fin_bl I q (by simp))
    | bl j => cases ry; exact eq_bool (fin_bl I q dec_bl)
    | str j => obtain ⟨t', rfl⟩ := ry; exact PySem.EqMixed.eq_bool_str (fin_bl I q (by simp))
    | _ => exact absurd (show false = true from hs) Bool.false_ne_true
  | int i =>
    obtain ⟨t, rfl⟩ := rx
    cases y with
    | non => cases ry; exact PySem.EqNone.eq_int_none (fin_bl I q (by simp))
    | int j => obtain ⟨t', rfl⟩ := ry; exact eq_int (fin_bl I q dec_int)
    | str j => obtain ⟨t', rfl⟩ := ry; exact PySem.EqMixed.eq_int_str (fin_bl I q (by simp))
    | _ => exact absurd (show false = true from hs) Bool.false_ne_true
  | str i =>
    obtain ⟨t, rfl⟩ := rx
    cases y with
    | non => cases ry; exact PySem.EqNone.eq_str_none (fin_bl I q (by simp))
    | bl j => cases ry; exact PySem.EqMixed.eq_str_bool (fin_bl I q (by simp))
    | int j => obtain ⟨t', rfl⟩ := ry; exact PySem.EqMixed.eq_str_int (fin_bl I q (by simp))
    | str j => obtain ⟨t', rfl⟩ := ry; exact eq_str (fin_bl I q dec_str)
    | _ => exact absurd (show false = true from hs) Bool.false_ne_true
  | byt i =>
    obtain ⟨t, rfl⟩ := rx
    cases y with
    | byt j => obtain ⟨t', rfl⟩ := ry; exact PySem.W.eq_bytes (fin_bl I q dec_byt)
    | _ => exact absurd (show false = true from hs) Bool.false_ne_true
  | _ => cases y <;> exact absurd (show false = true from hs) Bool.false_ne_true
theorem op_ne : OpR X (compareOp .NotEq) rNe := by
  intro pins s σ H x y v u Q I rx ry h
  obtain ⟨hs, q⟩ := h
  cases x with
  | non =>
    cases rx
    cases y with
    | non => cases ry; exact PySem.EqNone.ne_none_none (fin_bl I q (by simp))
    | bl j => cases ry; exact PySem.EqNone.ne_none_bool (fin_bl I q (by simp))
    | int j => obtain ⟨t', rfl⟩ := ry; exact PySem.EqNone.ne_none_int (fin_bl I q (by simp))
    | str j => obtain ⟨t', rfl⟩ := ry; exact PySem.EqNone.ne_none_str (fin_bl I q (by simp))
    | _ => exact absurd (show false = true from hs) Bool.false_ne_true
  | bl i =>
    cases rx
    cases y with
    | non => cases ry; exact PySem.EqNone.ne_bool_none (fin_bl I q (by simp))
    | bl j => cases ry; exact ne_bool (fin_bl I q (congrArg not dec_bl))
    | str j => obtain ⟨t', rfl⟩ := ry; exact PySem.EqMixed.ne_bool_str (fin_bl I q (by simp))
    | _ => exact absurd (show false = true from hs) Bool.false_ne_true
  | int i =>
    obtain ⟨t, rfl⟩ := rx
    cases y with
    | non => cases ry; exact PySem.EqNone.ne_int_none (fin_bl I q (by simp))
    | int j => obtain ⟨t', rfl⟩ := ry; exact ne_int (fin_bl I q (congrArg not dec_int))
    | str j => obtain ⟨t', rfl⟩ := ry; exact PySem.EqMixed.ne_int_str (fin_bl I q (by simp))
    | _ => exact absurd (show false = true from hs) Bool.false_ne_true
  | str i =>
    obtain ⟨t, rfl⟩ := rx
    cases y with
    | non => cases ry; exact PySem.EqNone.ne_str_none (fin_bl I q (by simp))
    | bl j => cases ry; exact PySem.EqMixed.ne_str_bool (fin_bl I q (by simp))
    | int j => obtain ⟨t', rfl⟩ := ry; exact PySem.EqMixed.ne_str_int (fin_bl I q (by simp))
    | str j => obtain ⟨t', rfl⟩ := ry; exact ne_str (fin_bl I q (congrArg not dec_str))
    | _ => exact absurd (show false = true from hs) Bool.false_ne_true
  | byt i =>
    obtain ⟨t, rfl⟩ := rx
    cases y with
    | byt j => obtain ⟨t', rfl⟩ := ry; exact PySem.W.ne_bytes (fin_bl I q (congrArg not dec_byt))
    | _ => exact absurd (show false = true from hs) Bool.false_ne_true
  | _ => cases y <;> exact absurd (show false = true from hs) Bool.false_ne_true
theorem op_lt : OpR X (compareOp .Lt) (rI0 fun i j => .bl (decide (i < j))) := opB0 fun _ _ _ _ _ _ _ q => lt_int q
theorem op_le : OpR X (compareOp .LtE) (rI0 fun i j => .bl (decide (i ≤ j))) := opB0 fun _ _ _ _ _ _ _ q => le_int q
theorem op_gt : OpR X (compareOp .Gt) (rI0 fun i j => .bl (decide (j < i))) := opB0 fun _ _ _ _ _ _ _ q => gt_int q
theorem op_ge : OpR X (compareOp .GtE) (rI0 fun i j => .bl (decide (j ≤ i))) := opB0 fun _ _ _ _ _ _ _ q => ge_int q
/-- two rules for one operation: by cases -/
theorem OpR.or {f : Value → Value → Sem Value} {r r' : R2} (h : OpR X f r) (h' : OpR X f r') : OpR X f (fun x y H Q => r x y H Q ∨ r' x y H Q) := by
  intro pins s σ H x y v u Q I rx ry q
  rcases q with q | q
  · exact h pins s σ H x y v u Q I rx ry q
  · exact h' pins s σ H x y v u Q I rx ry q
theorem nomark (b : Expr) {op : CmpOp} (h : op ≠ .In := by decide) (h2 : op ≠ .NotIn := by decide) : behindInMarks op b = false := by
  have e1 : (op == CmpOp.In) = false := by cases op <;> first | rfl | exact absurd rfl h
  have e2 : (op == CmpOp.NotIn) = false := by cases op <;> first | rfl | exact absurd rfl h2
  cases b <;> simp [behindInMarks, e1, e2]
/-- a comparison as a value; hm: nomark b, or (for in, not in) by with_unfolding_all rfl -/
theorem pe_cmpR {op : CmpOp} {r : R2} (ho : OpR X (compareOp op) r) (ha : PE X a ta) (hb : PE X b tb) (hm : behindInMarks op b = false) : PE X (.Compare a [op] [b] pos) (tOp r ta tb) := by
  intro pins s σ H Q I h
  exact wpAny_Compare1 (binT ha hb I h fun v u s2 x y H2 I2 rx ry q => ho pins s2 σ H2 x y v u Q I2 rx ry q) hm
/-- a reading of a value as a test -/
def tTest (t : TE) : TT := fun σ H Q => t σ H fun x H' => ∃ k, x = .bl k ∧ Q k H'
theorem pt_cmpR {op : CmpOp} {r : R2} (ho : OpR X (compareOp op) r) (ha : PE X a ta) (hb : PE X b tb) (hm : behindInMarks op b = false) : PT X (.Compare a [op] [b] pos) (tTest (tOp r ta tb)) := by
  intro pins s σ H Q I h
  refine wpAny_isTrue_Compare1 (thn (ha pins s σ H _ I h) fun v s1 ⟨x, H1, I1, r1, q1⟩ => thn (hb pins s1 σ H1 _ I1 q1) fun u s2 ⟨y, H2, I2, r2, q2⟩ =>
    thn (ho pins s2 σ H2 x y v u _ I2 r1 r2 q2) fun c s3 ⟨z, H3, I3, r3, k, e, q3⟩ => ?_) hm
  subst e
  cases r3
  exact wpAny_truthy_bool ⟨H3, I3, q3⟩
/-- a op1 b op2 c -/
def tChain (r r' : R2) (ta tb tc : TE) : TE := fun σ H Q => ta σ H fun x H1 => tb σ H1 fun y H2 => r x y H2 fun z H3 => ∃ k, z = .bl k ∧
  (if k = true then tc σ H3 fun w' H4 => r' y w' H4 Q else Q (.bl false) H3)
theorem pe_chain {op op' : CmpOp} {r r' : R2} (ho : OpR X (compareOp op) r) (ho' : OpR X (compareOp op') r') (ha : PE X a ta) (hb : PE X b tb) (hc : PE X c tc)
    (hm : lastMarks [op, op'] [b, c] = false := by with_unfolding_all rfl) : PE X (.Compare a [op, op'] [b, c] pos) (tChain r r' ta tb tc) := by
  intro pins s σ H Q I h
  refine Compare_chain (thn (ha pins s σ H _ I h) fun v s1 ⟨x, H1, I1, r1, q1⟩ => chain_link (thn (hb pins s1 σ H1 _ I1 q1) fun u s2 ⟨y, H2, I2, r2, q2⟩ =>
    thn (ho pins s2 σ H2 x y v u _ I2 r1 r2 q2) fun d s3 ⟨z, H3, I3, r3, k, e, q3⟩ => ?_)) hm
  subst e
  cases r3
  refine wpAny_truthy_bool ?_
  cases k with
  | false => exact ite_ff ⟨.bl false, H3, I3, rfl, q3⟩
  | true => exact ite_tt (chain_last (thn (hc pins s3 σ H3 _ I3 q3) fun w' s4 ⟨z', H4, I4, r4, q4⟩ => ho' pins s4 σ H4 y z' u w' Q I4 r2 r4 q4))
theorem pt_chain {op op' : CmpOp} {r r' : R2} (ho : OpR X (compareOp op) r) (ho' : OpR X (compareOp op') r') (ha : PE X a ta) (hb : PE X b tb) (hc : PE X c tc)
    (hm : lastMarks [op, op'] [b, c] = false := by with_unfolding_all rfl) : PT X (.Compare a [op, op'] [b, c] pos) (tTest (tChain r r' ta tb tc)) := by
  intro pins s σ H Q I h
  refine isTrue_chain (thn (ha pins s σ H _ I h) fun v s1 ⟨x, H1, I1, r1, q1⟩ => test_link (thn (hb pins s1 σ H1 _ I1 q1) fun u s2 ⟨y, H2, I2, r2, q2⟩ =>
    thn (ho pins s2 σ H2 x y v u _ I2 r1 r2 q2) fun d s3 ⟨z, H3, I3, r3, k, e, q3⟩ => ?_)) hm
  subst e
  cases r3
  refine wpAny_truthy_bool ?_
  cases k with
  | false =>
    obtain ⟨k', e', q'⟩ := q3
    cases e'
    exact ite_ff ⟨H3, I3, q'⟩
  | true =>
    refine ite_tt (test_last (thn (hc pins s3 σ H3 _ I3 q3) fun w' s4 ⟨z', H4, I4, r4, q4⟩ => thn (ho' pins s4 σ H4 y z' u w' _ I4 r2 r4 q4) fun d' s5 ⟨z2, H5, I5, r5, k2, e2, q5⟩ => ?_))
    subst e2
    cases r5
    exact wpAny_truthy_bool ⟨H5, I5, q5⟩
theorem line63 : (sizeLine : Nat) < 2 ^ 63 := by rw [sizeLine_eq]; decide
theorem vals1 {x : V} {us : List Value} (r : Vals [x] us) : ∃ u, us = [u] ∧ RelV x u := by
  cases r with
  | cons r1 r2 => cases r2; exact ⟨_, rfl, r1⟩
end
end L2
namespace L2
open PySem PySem.Spec PyProof.Rows
structure ObjM (h : Heap) (x dx C : Addr) (mA : Str → Option Value) : Prop where
  obj : h.get? x = some (PySem.W.instObj C dx)
  ns : h.Ns1 dx mA
  ne : dx ≠ x
theorem lookIn_ns {h : Heap} {dx : Addr} {mA : Str → Option Value} (n : h.Ns1 dx mA) : ∃ od, h.get? dx = some od ∧ ∀ name, PySem.W.lookIn name od = some (mA name) := by
  obtain ⟨o, es, ep, ho, hd, hk, _, hm⟩ := n
  refine ⟨o, ho, fun name => ?_⟩
  have e := hm name
  unfold nsFind findBy at e
  rw [← Array.find?_toList] at e
  unfold PySem.W.lookIn
  rw [hd]
  dsimp only
  split
  · rename_i y q
    rw [q] at e
    exact congrArg some e
  · rename_i q
    rw [q] at e
    have a : es.toList.any (·.refKey) = false := by
      rw [List.any_eq_false]
      intro y hy
      obtain ⟨z, t, hkey⟩ := hk y (Array.mem_toList_iff.mp hy)
      simp [DictEntry.refKey, hkey]
    have a' : ¬ es.toList.any (·.refKey) = true := by rw [a]; exact Bool.false_ne_true
    rw [if_neg a']
    exact congrArg some e
theorem ObjM.look {h : Heap} {x dx C : Addr} {mA : Str → Option Value} (I : ObjM h x dx C mA) : ∃ od, PySem.W.InstAt h x (PySem.W.instObj C dx) C (some od) ∧ ∀ name, PySem.W.lookIn name od = some (mA name) :=
  let ⟨od, ho, hl⟩ := lookIn_ns I.ns
  ⟨od, ⟨I.obj, rfl, rfl, ho⟩, hl⟩
section
variable {prog : Program} {w : World} {A : Around} {E : Value → Shared → Prop} {s : Shared} {K : PySem.W.Frag} {x dx C f : Addr} {mA : Str → Option Value} {name : Str} {v : Value}
theorem get_map {expr : Bool} {Q : Value → Shared → Prop} (X : K.In s.heap) (I : ObjM s.heap x dx C mA) (hg : PySem.W.plainGet K C name = true) (hh : PySem.W.hasDictIn K C = true)
    (ha : PySem.W.findIn K (.ref C) name = some none) (hv : mA name = some v) (hv' : PySem.W.handedIn v = true) (h : Q v { s with toks := s.toks + 1 }) :
    wpAny (model prog w) A (getAttr (.ref x) name expr) Q E s := by
  obtain ⟨od, J, hl⟩ := I.look
  exact PySem.W.get_value X J (PySem.W.plainGet_of hg).1 (PySem.W.findObj_own hh ha rfl (by rw [hl, hv])) hv' h
theorem set_map {ns : List Str} {Q : Unit → Shared → Prop} (X : K.In s.heap) (I : ObjM s.heap x dx C mA)
    (hs : PySem.W.findIn K (.ref C) "__setattr__" = some (some (.builtin "object.__setattr__"))) (hp : PySem.W.plainOver K C = true) (ht : PySem.W.takerIn K C name = some none) (hh : PySem.W.hasDictIn K C = true)
    (hw : PySem.Within mA ns) (hsz : ns.length ≤ sizeLine)
    (h : ∀ h', ObjM h' x dx C (fun y => if y = name then some v else mA y) → Heap.SameBut dx s.heap h' → Q () { s with heap := h', toks := s.toks + 2 }) :
    wpAny (model prog w) A (setAttr (.ref x) name v) Q E s := by
  obtain ⟨od, J, hl⟩ := I.look
  refine PySem.W.set_plain X J hs (PySem.W.osa_open (s := { s with toks := s.toks + 1 }) (r := none) X J hp ht fun b => ?_)
  obtain ⟨cd, hc, hd'⟩ := PySem.W.any_some hh
  have hx : s.heap.get? x = some ⟨.ref C, some dx, .plain, #[]⟩ := I.obj
  refine wpAny_bind (wpAny_pure (wpAny_bind (wpAny_bind (wpAny_loadPart hx (wpAny_bind (PySem.W.Looks.here (s := { s with toks := s.toks + 1 }) (PySem.W.looks_clsIn X hc) ?_))))))
  rw [hd']
  refine wpAny_pure (a := some dx) (wpAny_bind (wpAny_pure (wpAny_bind ?_)))
  refine wpAny_nsSet1 (s := { s with toks := s.toks + 1 }) I.ns fun h' hn2 hs2 => ?_
  obtain ⟨oD, esD, epD, hoD, hdD, hcD⟩ := hn2.count (PySem.Within.cons name v hw)
  refine wpAny_bind (wpAny_lookBehind hoD (by rw [hdD]; exact pastItsLine_dict (Nat.le_trans hcD (by rw [List.length_cons]; omega))) ?_)
  exact wpAny_pure (h _ ⟨(hs2.2 _ (Ne.symm I.ne)).trans I.obj, hn2, I.ne⟩ hs2)
/-- C(..): the dict at the heap's end, the instance behind it; then its __init__ -/
theorem make_map {R : Result → Shared → Prop} {vs : List Value} {kw : List (Str × Value)} (X : K.In s.heap) (hm : PySem.W.makesIn K C = true)
    (hi : PySem.W.findIn K (.ref C) "__init__" = some (some (.ref f))) (hf : PySem.W.typeIn K (.ref f) = some (.type "function"))
    (h : codeAny (model prog w) (A.under (.builtin "type.__call__" ⟨.ref C :: vs, kw⟩)) (.call (.ref f) ⟨.ref (s.heap.objs.size + 1) :: vs, kw⟩) (PySem.W.InitBack (s.heap.objs.size + 1) R)
      { s with heap := (s.heap.push PySem.W.emptyDict).push (PySem.W.instObj C s.heap.objs.size) }) :
    codeAny (model prog w) A (.call (.ref C) ⟨vs, kw⟩) R s := by
  obtain ⟨hh, g, d, t, os⟩ := s
  exact PySem.W.make_core (PySem.W.makes_of X hm) (PySem.W.looks_findIn X hi) (fun self => PySem.W.bind_fn X self hf) (.inl rfl) h
end
def putF (f : Str) (v : V) : List (Str × V) → List (Str × V)
  | [] => [(f, v)]
  | (g, x) :: r => if g = f then (g, v) :: r else (g, x) :: putF f v r
theorem lookup_putF (f g : Str) (v : V) : ∀ fs : List (Str × V), (putF f v fs).lookup g = if g = f then some v else fs.lookup g
  | [] => by
    show List.lookup g [(f, v)] = _
    by_cases h : g = f
    · have hb : (g == f) = true := beq_iff_eq.mpr h
      simp only [List.lookup, hb, if_pos h]
    · have hb : (g == f) = false := beq_eq_false_iff_ne.mpr h
      simp only [List.lookup, hb, if_neg h]
  | (k, x) :: r => by
    have ih := lookup_putF f g v r
    rw [show putF f v ((k, x) :: r) = (if k = f then (k, v) :: r else (k, x) :: putF f v r) from rfl]
    by_cases hk : k = f
    · rw [if_pos hk]
      by_cases h : g = k
      · have hb : (g == k) = true := beq_iff_eq.mpr h
        simp only [List.lookup, hb, if_pos (h.trans hk)]
      · have hb : (g == k) = false := beq_eq_false_iff_ne.mpr h
        simp only [List.lookup, hb, if_neg (fun e : g = f => h (e.trans hk.symm))]
    · rw [if_neg hk]
      by_cases h : g = k
      · have hb : (g == k) = true := beq_iff_eq.mpr h
        simp only [List.lookup, hb, if_neg (fun e : g = f => hk (h.symm.trans e))]
      · have hb : (g == k) = false := beq_eq_false_iff_ne.mpr h
        simp only [List.lookup, hb]
        exact ih
theorem keys_putF (f : Str) (v : V) : ∀ fs : List (Str × V), f ∈ (putF f v fs).map (·.1) ∧ ∀ g, g ∈ fs.map (·.1) → g ∈ (putF f v fs).map (·.1)
  | [] => ⟨by simp [putF], fun g h => by simp at h⟩
  | (k, x) :: r => by
    obtain ⟨i1, i2⟩ := keys_putF f v r
    rw [show putF f v ((k, x) :: r) = (if k = f then (k, v) :: r else (k, x) :: putF f v r) from rfl]
    by_cases hk : k = f
    · rw [if_pos hk]
      subst hk
      exact ⟨by simp, fun g h => by simpa using h⟩
    · rw [if_neg hk]
      refine ⟨?_, fun g h => ?_⟩
      · rw [List.map_cons]
        exact List.mem_cons_of_mem _ i1
      · rw [List.map_cons] at h ⊢
        rcases List.mem_cons.mp h with e | e
        · exact List.mem_cons.mpr (.inl e)
        · exact List.mem_cons_of_mem _ (i2 g e)
theorem length_putF (f : Str) (v : V) : ∀ fs : List (Str × V), (putF f v fs).length ≤ fs.length + 1
  | [] => by simp [putF]
  | (k, x) :: r => by
    have ih := length_putF f v r
    rw [show putF f v ((k, x) :: r) = (if k = f then (k, v) :: r else (k, x) :: putF f v r) from rfl]
    by_cases hk : k = f
    · rw [if_pos hk, List.length_cons, List.length_cons]; omega
    · rw [if_neg hk, List.length_cons, List.length_cons]; omega
theorem RelO.some_of {v : V} {o : Option Value} (r : RelO (some v) o) : ∃ u, o = some u ∧ RelV v u := by
  cases o with
  | none => exact (show False from r).elim
  | some u => exact ⟨u, rfl, r⟩
theorem handed_of {v : V} {u : Value} (r : RelV v u) : PySem.W.handedIn u = true := by
  cases v with
  | non => cases (show u = Value.none from r); rfl
  | bl b => cases (show u = Value.bool b from r); rfl
  | int i => obtain ⟨t, e⟩ := (show ∃ t, u = Value.int i t from r); cases e; rfl
  | str x => obtain ⟨t, e⟩ := (show ∃ t, u = Value.str x t from r); cases e; rfl
  | byt b => obtain ⟨t, e⟩ := (show ∃ t, u = Value.bytes b t from r); cases e; rfl
  | flt b => obtain ⟨t, e⟩ := (show ∃ t, u = Value.float b t from r); cases e; rfl
  | ref a => cases (show u = Value.ref a from r); rfl
  | ty n => cases (show u = Value.type n from r); rfl
section
variable {P : Program} {w : World} {H H' : Hp} {h h' : Heap} {a C dx : Addr} {fs fs' : List (Str × V)}
theorem ins_get (hok : HOk P w H h) (e : H a = some (.ins C dx fs)) : ∃ mA, ObjM h a dx C mA ∧ (∀ f, RelO (fs.lookup f) (mA f)) ∧ PySem.Within mA (fs.map (·.1)) ∧ fs.length ≤ 1000 ∧ H dx = some (.own a) := by
  obtain ⟨d, z, ne, ob, mA, n, r, q⟩ := (show ObjOk P w H h a (.ins C dx fs) from hok a _ e)
  exact ⟨mA, ⟨ob, n, ne⟩, r, q, z, d⟩
end
structure Cls (K : PySem.W.Frag) (C : Addr) : Prop where
  pg : PySem.W.plainGet K C Str.empty = true
  hd : PySem.W.hasDictIn K C = true
  po : PySem.W.plainOver K C = true
  sa : PySem.W.findIn K (.ref C) "__setattr__" = some (some (.builtin "object.__setattr__"))
theorem Cls.get {K : PySem.W.Frag} {C : Addr} (c : Cls K C) (f : Str) : PySem.W.plainGet K C f = true := c.pg
/-- no class of it has the name -/
def NoAttr (K : PySem.W.Frag) (C : Addr) (f : Str) : Prop := PySem.W.findIn K (.ref C) f = some none
theorem NoAttr.taker {K : PySem.W.Frag} {C : Addr} {f : Str} (n : NoAttr K C f) : PySem.W.takerIn K C f = some none := by
  unfold PySem.W.takerIn
  rw [show PySem.W.findIn K (.ref C) f = some none from n]
  rfl
section
variable {X : Cx} {pins : List (Addr × Obj)} {σ : St} {H : Hp} {s : Shared} {a C dx : Addr} {fs : List (Str × V)} {f : Str} {v : V} {A : Around} {E : Value → Shared → Prop}
theorem getattr_ok {b : Bool} {Q : Value → Shared → Prop} (I : Inv X pins σ H s) (e : H a = some (.ins C dx fs)) (c : Cls X.K C) (n : NoAttr X.K C f) (l : fs.lookup f = some v)
    (h : ∀ u s', Inv X pins σ H s' → RelV v u → Q u s') : wpAny (model X.prog X.w) A (getAttr (.ref a) f b) Q E s := by
  obtain ⟨mA, O, r, _, _, _⟩ := ins_get I.hok e
  obtain ⟨u, hu, ru⟩ := RelO.some_of (v := v) (o := mA f) (by rw [← l]; exact r f)
  exact get_map I.kIn O (c.get f) c.hd n hu (handed_of ru) (h u _ (I.tok _) ru)
theorem setattr_ok {y : V} {u : Value} {Q : Unit → Shared → Prop} (I : Inv X pins σ H s) (e : H a = some (.ins C dx fs)) (c : Cls X.K C) (n : NoAttr X.K C f) (hl : fs.length < 1000) (ry : RelV y u)
    (h : ∀ s', Inv X pins σ (upd H a (.ins C dx (putF f y fs))) s' → Q () s') : wpAny (model X.prog X.w) A (setAttr (.ref a) f u) Q E s := by
  obtain ⟨mA, O, r, wi, _, ho⟩ := ins_get I.hok e
  have hz : (fs.map (·.1)).length ≤ sizeLine := by rw [List.length_map, sizeLine_eq]; omega
  refine set_map I.kIn O c.sa c.po n.taker c.hd wi hz fun h' O' sb => h _ ?_
  have hd : ∃ o, h'.get? dx = some o := let ⟨o, _, _, e', _⟩ := O'.ns; ⟨o, e'⟩
  refine I.write (x := a) (e := dx) (by rw [e]; exact True.intro) (.inr ho) (fun b q hb z => (sb.2 b hb).trans z) hd ?_
  refine ⟨by rw [upd_ne O.ne]; exact ho, ?_, O.ne, O'.obj, _, O'.ns, fun g => ?_, fun g hg => ?_⟩
  · have := length_putF f y fs; omega
  · show RelO ((putF f y fs).lookup g) (if g = f then some u else mA g)
    rw [lookup_putF]
    by_cases q : g = f
    · rw [if_pos q, if_pos q]; exact ry
    · rw [if_neg q, if_neg q]; exact r g
  · by_cases q : g = f
    · rw [q]; exact (keys_putF f y fs).1
    · refine (keys_putF f y fs).2 g (wi g fun z => hg ?_)
      show (if g = f then some u else mA g) = none
      rw [if_neg q]; exact z
/-- a new instance, tracked, without attributes -/
theorem Inv.made (I : Inv X pins σ H s) : Inv X pins σ (upd (upd H s.heap.objs.size (.own (s.heap.objs.size + 1))) (s.heap.objs.size + 1) (.ins C s.heap.objs.size []))
    { s with heap := (s.heap.push PySem.W.emptyDict).push (PySem.W.instObj C s.heap.objs.size) } := by
  have e1 : (s.heap.push PySem.W.emptyDict).get? s.heap.objs.size = some PySem.W.emptyDict := Heap.get?_push_size s.heap rfl
  have e2 : ((s.heap.push PySem.W.emptyDict).push (PySem.W.instObj C s.heap.objs.size)).get? (s.heap.objs.size + 1) = some (PySem.W.instObj C s.heap.objs.size) := by
    have := Heap.get?_push_size (s.heap.push PySem.W.emptyDict) (o := PySem.W.instObj C s.heap.objs.size) rfl
    rwa [Heap.size_push] at this
  have e3 : (s.heap.push PySem.W.emptyDict).Ns s.heap.objs.size (fun _ => none) := ⟨PySem.W.emptyDict, #[], _, e1, rfl, (fun e he => absurd he (by simp)), fun _ => rfl⟩
  have I1 := I.laid (a := s.heap.objs.size) (o := .own (s.heap.objs.size + 1)) (h' := s.heap.push PySem.W.emptyDict) (t' := s.toks) (fun b u q => Heap.get?_push_of_some _ q) (Nat.le_refl _) ⟨_, e1⟩
  refine I1.laid (a := s.heap.objs.size + 1) (o := .ins C s.heap.objs.size []) (t' := s.toks) (fun b u q => Heap.get?_push_of_some _ q) (Nat.le_of_eq (Heap.size_push _ _)) ?_
  have ne : s.heap.objs.size ≠ s.heap.objs.size + 1 := Nat.ne_of_lt (Nat.lt_succ_self _)
  refine ⟨by rw [upd_ne ne, upd_same], Nat.zero_le _, ne, e2, fun _ => none, (Heap.Ns1.of_empty e3).at fun o q => Heap.get?_push_of_some _ q, fun _ => True.intro, fun y hy => absurd rfl hy⟩
/-- e.f where nothing but the object is asked: through attributeBase (super) and the last hold -/
theorem attr_of {prog : Program} {w : World} {env : Env} {e : Expr} {f : Str} {pos : Pos} {s : Shared} {Q : Value → Shared → Prop} (hb : attributeBase e f env (eval e env) = eval e env)
    (h : wpAny (model prog w) A (eval e env) (fun o s₁ => wpAny (model prog w) A (getAttr o f true) Q E s₁) E s) : wpAny (model prog w) A (eval (.Attribute e f pos) env) Q E s :=
  Attribute_any_ h (by rw [arm_eval_Attribute, hb])
end
/-- e.f, an attribute of the instance -/
def tFld (K : PySem.W.Frag) (ta : TE) (f : Str) : TE := fun σ H Q => ta σ H fun x H1 => ∃ a C dx fs v, x = .ref a ∧ H1 a = some (.ins C dx fs) ∧ Cls K C ∧ NoAttr K C f ∧ fs.lookup f = some v ∧ Q v H1
/-- e.f = value -/
def sFld (K : PySem.W.Frag) (ta tv : TE) (f : Str) : TS := fun D σ H => tv σ H fun y H1 => ta σ H1 fun x H2 => ∃ a C dx fs, x = .ref a ∧ H2 a = some (.ins C dx fs) ∧ Cls K C ∧ NoAttr K C f ∧ fs.length < 1000 ∧
  D.nx σ (upd H2 a (.ins C dx (putF f y fs)))
/-- an augmented operator on two values -/
def InOp (X : Cx) (op : Operator) (rd : V → V → Hp → VK → Prop) : Prop :=
  ∀ (pins : List (Addr × Obj)) (s : Shared) (σ : St) (H : Hp) (x y : V) (u v : Value) (Q : VK), Inv X pins σ H s → RelV x u → RelV y v → rd x y H Q → wpAny (model X.prog X.w) X.A (inplaceOp op u v) (EP X pins σ Q) X.xe s
/-- e.f op= value -/
def sFldAug (K : PySem.W.Frag) (ta tv : TE) (rd : V → V → Hp → VK → Prop) (f : Str) : TS := fun D σ H => ta σ H fun x H1 => ∃ a C dx fs v, x = .ref a ∧ H1 a = some (.ins C dx fs) ∧ Cls K C ∧ NoAttr K C f ∧ fs.lookup f = some v ∧
  tv σ H1 fun y H2 => rd v y H2 fun z H3 => ∃ dx' fs', H3 a = some (.ins C dx' fs') ∧ fs'.length < 1000 ∧ D.nx σ (upd H3 a (.ins C dx' (putF f z fs')))
section
variable {X : Cx} {o e value : Expr} {f : Str} {pos pos' tpos : Pos} {ta tv : TE}
theorem pe_fld (he : PE X e ta) (hb : attributeBase e f X.env (eval e X.env) = eval e X.env) : PE X (.Attribute e f pos) (tFld X.K ta f) := by
  intro pins s σ H Q I h
  refine attr_of hb (thn (he pins s σ H _ I h) fun u s1 ⟨x, H1, I1, rx, a, C, dx, fs, v, ex, ea, c, n, l, q⟩ => ?_)
  subst ex
  obtain rfl : u = Value.ref a := rx
  exact getattr_ok I1 ea c n l fun u' s2 I2 ru => ⟨v, H1, I2, ru, q⟩
theorem ps_fld (ha : PE X o ta) (hv : PE X value tv) (hs : swapsWith value (some (.Attribute o f pos')) pos.line X.env = pure false) : PS X (.Assign [.Attribute o f pos'] value pos) (sFld X.K ta tv f) := by
  intro pins s σ H D I h
  refine plainObj_wpAny_Assign_Attribute (thn (hv pins s σ H _ I h) fun u s1 ⟨y, H1, I1, ry, q⟩ => thn (ha pins s1 σ H1 _ I1 q) fun ov s2 ⟨x, H2, I2, rx, a, C, dx, fs, ex, ea, c, n, l, q2⟩ => ?_) hs
  subst ex
  obtain rfl : ov = Value.ref a := rx
  exact setattr_ok I2 ea c n l ry fun s3 I3 => ⟨σ, _, I3, q2⟩
theorem ps_fldaug {op : Operator} {rd : V → V → Hp → VK → Prop} (ha : PE X o ta) (hv : PE X value tv) (hop : InOp X op rd) : PS X (.AugAssign (.Attribute o f tpos) op value pos) (sFldAug X.K ta tv rd f) := by
  intro pins s σ H D I h
  refine wpAny_AugAssign_AttributeAny (thn (ha pins s σ H _ I h) fun ov s1 ⟨x, H1, I1, rx, a, C, dx, fs, v, ex, ea, c, n, l, q⟩ => ?_)
  subst ex
  obtain rfl : ov = Value.ref a := rx
  refine getattr_ok I1 ea c n l fun u s2 I2 ru => thn (hv pins s2 σ H1 _ I2 q) fun w3 s3 ⟨y, H2, I3, ry, q3⟩ => thn (hop pins s3 σ H2 v y u w3 _ I3 ru ry q3) fun w4 s4 ⟨z, H3, I4, rz, dx', fs', ea', l', q4⟩ => ?_
  exact setattr_ok I4 ea' c n l' rz fun s5 I5 => ⟨σ, _, I5, q4⟩
def rAdd : V → V → Hp → VK → Prop := fun x y H Q => ∃ i j, x = .int i ∧ y = .int j ∧ Q (.int (i + j)) H
def rSub : V → V → Hp → VK → Prop := fun x y H Q => ∃ i j, x = .int i ∧ y = .int j ∧ Q (.int (i - j)) H
theorem in_add : InOp X .Add rAdd := by
  rintro pins s σ H x y u v Q I rx ry ⟨i, j, rfl, rfl, q⟩
  obtain ⟨t, rfl⟩ := (show ∃ t, u = Value.int i t from rx)
  obtain ⟨t', rfl⟩ := (show ∃ t', v = Value.int j t' from ry)
  exact PyProof.Rows.iadd_int ⟨.int (i + j), H, I.tok _, ⟨_, rfl⟩, q⟩
theorem in_sub : InOp X .Sub rSub := by
  rintro pins s σ H x y u v Q I rx ry ⟨i, j, rfl, rfl, q⟩
  obtain ⟨t, rfl⟩ := (show ∃ t, u = Value.int i t from rx)
  obtain ⟨t', rfl⟩ := (show ∃ t', v = Value.int j t' from ry)
  exact PyProof.Rows.isub_int ⟨.int (i - j), H, I.tok _, ⟨_, rfl⟩, q⟩
end
section
variable {X : Cx} {pins : List (Addr × Obj)} {σ : St} {H : Hp} {s : Shared} {A : Around} {E : Value → Shared → Prop} {Q : Value → Shared → Prop} {c : Value} {b : Bool}
end
end L2
namespace L2
open PySem PySem.Spec PyProof.Rows
structure Room (k : Nat) (A : Around) : Prop where
  hd : A.handled = none
  dp : A.depth + 3 * k + 5 < recursionLimit
  un : A.units + 16 * k + 200 < cLine
theorem Room.mono {j k : Nat} {A : Around} (r : Room k A) (h : j ≤ k) : Room j A := ⟨r.hd, by have := r.dp; omega, by have := r.un; omega⟩
theorem Room.deeper {k : Nat} {A : Around} (r : Room (k + 1) A) (env : Env) : Room k (A.deeper env) :=
  ⟨r.hd, by have := r.dp; show A.depth + 1 + 3 * k + 5 < _; omega, by have := r.un; show A.units + 3 + 16 * k + 200 < _; omega⟩
theorem make_depth {A : Around} {C : Addr} {us : List Value} {kw : List (Str × Value)} : (A.under (.builtin "type.__call__" ⟨.ref C :: us, kw⟩)).depth = A.depth + 1 := by
  first | rfl | simp [Around.under, Code.weight, Code.isCreation, Code.isGuard, Code.isCaller, Code.frames, Code.isFrame, guardIds]
theorem make_units {A : Around} {C : Addr} {us : List Value} {kw : List (Str × Value)} : (A.under (.builtin "type.__call__" ⟨.ref C :: us, kw⟩)).units = A.units + 1 := by
  first | rfl | simp [Around.under, Code.cUnits, Code.frames, Code.isFrame]
theorem Room.make {k : Nat} {A : Around} (r : Room (k + 1) A) (C : Addr) (us : List Value) (kw : List (Str × Value)) : Room k (A.under (.builtin "type.__call__" ⟨.ref C :: us, kw⟩)) :=
  ⟨r.hd, by have := r.dp; rw [make_depth]; omega, by have := r.un; rw [make_units]; omega⟩
theorem Room.depth {k : Nat} {A : Around} (r : Room k A) : A.depth < recursionLimit := by have := r.dp; omega
theorem Room.units {k : Nat} {A : Around} (r : Room k A) : A.units + 64 < cLine := by have := r.un; omega
def tNil : TA := fun _ H Q => Q [] H
def tCons (ta : TE) (tr : TA) : TA := fun σ H Q => ta σ H fun x H1 => tr σ H1 fun xs H2 => Q (x :: xs) H2
section
variable {X : Cx} {e : Expr} {es : List Expr} {te : TE} {t : TA} {pos : Pos}
theorem pa_nil : PA X [] tNil := fun _ _ _ _ H Q I h => Calls.spliced_nil ⟨[], H, I, .nil, h⟩
theorem pa_cons (ha : PE X e te) (hr : PA X es t) (hs : starEach (e :: es) X.env = (false, eval e X.env) :: starEach es X.env := by rfl) : PA X (e :: es) (tCons te t) := by
  intro pos pins s σ H Q I h
  rw [hs]
  show wpAny _ _ (spliced ((false, eval e X.env) :: backTo pos (starEach es X.env))) _ _ s
  refine Calls.spliced_cons (thn (ha pins s σ H _ I h) fun u s1 ⟨x, H1, I1, r1, q1⟩ => ?_)
  exact thn (hr pos pins s1 σ H1 _ I1 q1) fun us s2 ⟨xs, H2, I2, r2, q2⟩ => ⟨x :: xs, H2, I2, .cons r1 r2, q2⟩
/-- a tuple, a list of written items -/
def tTup (t : TA) : TE := fun σ H Q => t σ H fun xs H1 => xs.length ≤ sizeLine ∧ ∀ p, H1 p = none → Q (.ref p) (upd H1 p (.tup xs))
def tLst (t : TA) : TE := fun σ H Q => t σ H fun xs H1 => xs.length ≤ sizeLine ∧ ∀ p, H1 p = none → Q (.ref p) (upd H1 p (.lst xs))
theorem pe_tup {x1} (h : PA X es t) : PE X (.Tuple es x1 pos) (tTup t) := by
  intro pins s σ H Q I hq
  refine wpAny_Tuple_spliced (thn (h pos pins s σ H _ I hq) fun us s1 ⟨xs, H1, I1, r, z, q⟩ => ⟨by rw [← r.length]; exact z, ?_⟩)
  have hf : H1 s1.heap.objs.size = none := I1.hok.fresh (Nat.le_refl _)
  refine ⟨.ref s1.heap.objs.size, upd H1 s1.heap.objs.size (.tup xs), I1.laid (t' := s1.toks) (fun b u e => Heap.get?_push_of_some _ e) (Nat.le_refl _) ?_, rfl, q _ hf⟩
  exact ⟨z, us, r, ⟨_, Heap.get?_push_size _ rfl, rfl, _, rfl⟩⟩
theorem pe_lst (h : PA X es t) : PE X (.List es pos) (tLst t) := by
  intro pins s σ H Q I hq
  refine wpAny_List_spliced (thn (h pos pins s σ H _ I hq) fun us s1 ⟨xs, H1, I1, r, z, q⟩ => ⟨by rw [← r.length]; exact z, ?_⟩)
  have hf : H1 s1.heap.objs.size = none := I1.hok.fresh (Nat.le_refl _)
  refine ⟨.ref s1.heap.objs.size, upd H1 s1.heap.objs.size (.lst xs), I1.laid (t' := s1.toks) (fun b u e => Heap.get?_push_of_some _ e) (Nat.le_refl _) ?_, rfl, q _ hf⟩
  exact ⟨z, us, 0, r, Heap.get?_push_size _ rfl⟩
end
/-- a def's promise: the bound arguments in the parameters' order, the heap, the wanted end, the wanted exception -/
abbrev Sp := List V → Hp → VK → XK → Prop
/-- how an exception lies behind a call (file 08 gives it): the callers' frames, abstract heap and state ahead of the call, the wish, the exception, the state -/
abbrev CXT := List Env → Hp → Shared → XK → Value → Shared → Prop
/-- the state at a call -/
structure Env0 (P : Program) (w : World) (K : PySem.W.Frag) (mg : Str → Option Value) (base : Heap) (A : Around) (outer : List Env) (s : Shared) (H : Hp) : Prop where
  frames : A.frames = some outer
  mod : Mod K mg base
  bs : ∀ b o, base.get? b = some o → s.heap.get? b = some o ∧ H b = none
  bsz : base.objs.size ≤ s.heap.objs.size
  funs : s.heap.FunFrames base outer
  frf : ∀ b ∈ frs outer, H b = none
  hok : HOk P w H s.heap
  bare : AllBare s.gens
/-- a call's end -/
def CE (outer : List Env) (P : Program) (w : World) (H : Hp) (s : Shared) (Q : VK) (u : Value) (s' : Shared) : Prop :=
  ∃ v H', s'.os = s.os ∧ AllBare s'.gens ∧ Un (frs outer) [] H H' s.heap s'.heap ∧ HOk P w H' s'.heap ∧ RelV v u ∧ Q v H'
def CR (CX : CXT) (outer : List Env) (P : Program) (w : World) (H : Hp) (s : Shared) (Q : VK) (E : XK) (r : Result) (s' : Shared) : Prop :=
  match r with
  | .ok (.ret u) => CE outer P w H s Q u s'
  | .ok _ => False
  | .error e => CX outer H s E e s'
structure FnOk (P : Program) (w : World) (K : PySem.W.Frag) (mg : Str → Option Value) (base : Heap) (CX : CXT) (k : Nat) (f : Addr) (fd : FuncData) (ps : List Str) (sp : Sp) : Prop where
  len : ∀ vs H Q E, sp vs H Q E → vs.length = ps.length
  run : ∀ (A : Around) (outer : List Env) (s : Shared) (H : Hp) (args : Args) (us : List Value) (vs : List V) (Q : VK) (E : XK), Room k A → Env0 P w K mg base A outer s H → BindsTo s fd args (ps.zip us) → Vals vs us → sp vs H Q E →
    codeAny (model P w) A (.call (.ref f) args) (CR CX outer P w H s Q E) s
theorem FnOk.mono {P : Program} {w : World} {K : PySem.W.Frag} {mg : Str → Option Value} {base : Heap} {CX : CXT} {j k : Nat} {f : Addr} {fd : FuncData} {ps : List Str} {sp : Sp} (F : FnOk P w K mg base CX j f fd ps sp) (h : j ≤ k) :
    FnOk P w K mg base CX k f fd ps sp := ⟨F.len, fun A outer s H args us vs Q E hr => F.run A outer s H args us vs Q E (hr.mono h)⟩
/-- a weaker promise -/
theorem FnOk.imp {P : Program} {w : World} {K : PySem.W.Frag} {mg : Str → Option Value} {base : Heap} {CX : CXT} {k : Nat} {f : Addr} {fd : FuncData} {ps : List Str} {sp sp' : Sp} (F : FnOk P w K mg base CX k f fd ps sp)
    (h : ∀ vs H Q E, sp' vs H Q E → sp vs H Q E) : FnOk P w K mg base CX k f fd ps sp' :=
  ⟨fun vs H Q E q => F.len vs H Q E (h _ _ _ _ q), fun A outer s H args us vs Q E hr he hb hv hs => F.run A outer s H args us vs Q E hr he hb hv (h _ _ _ _ hs)⟩
theorem Env0.make {P : Program} {w : World} {K : PySem.W.Frag} {mg : Str → Option Value} {base : Heap} {A : Around} {outer : List Env} {s : Shared} {H : Hp} (e : Env0 P w K mg base A outer s H) (C : Addr) (us : List Value) (kw : List (Str × Value)) :
    Env0 P w K mg base (A.under (.builtin "type.__call__" ⟨.ref C :: us, kw⟩)) outer s H := ⟨by first | exact e.frames | (simpa [Around.under, Code.envs, Code.isFrame, pushEnvs] using e.frames), e.mod, e.bs, e.bsz, e.funs, e.frf, e.hok, e.bare⟩
section
variable {X : Cx} {pins : List (Addr × Obj)} {σ : St} {H : Hp} {s s' : Shared}
/-- from a body: what a callee wants -/
theorem Inv.env0 (I : Inv X pins σ H s) : Env0 X.prog X.w X.K X.mg X.base X.A X.stack s H :=
  ⟨I.ok.frames, I.ok.mod, I.bs, Nat.le_trans I.ok.bsz I.sz, I.stack, I.stkFree, I.hok, I.bare⟩
/-- behind a call -/
theorem Inv.after {Q : VK} {u : Value} (I : Inv X pins σ H s) (h : CE X.stack X.prog X.w H s Q u s') : EP X pins σ Q u s' := by
  obtain ⟨v, H', os, bare, un, hok, r, q⟩ := h
  obtain ⟨hh, g, d, t, os'⟩ := s'
  obtain rfl : os' = s.os := os
  exact ⟨v, H', I.call (h' := hh) (g' := g) (d' := d) (t' := t) (ch := []) un hok bare (fun b z => absurd z (by simp)), r, q⟩
end
/-- f(..): the written arguments, then the defaults dvs; E: what is wanted of an exception -/
def tCall (sp : Sp) (dvs : List V) (E : XK) (t : TA) : TE := fun σ H Q => t σ H fun vs H1 => sp (vs ++ dvs) H1 Q E
/-- C(..): a new instance and its dict, then __init__ -/
def tMake (C : Addr) (sp : Sp) (dvs : List V) (E : XK) (t : TA) : TE := fun σ H Q => t σ H fun vs H1 => ∀ x dx, H1 x = none → H1 dx = none → dx ≠ x →
  sp (.ref x :: (vs ++ dvs)) (upd (upd H1 dx (.own x)) x (.ins C dx [])) (fun v H2 => v = .non ∧ Q (.ref x) H2) E
/-- how the parameters are bound: us the positional arguments, kw the keywords' values by name, ds the defaults that fill up -/
def Binds (K : PySem.W.Frag) (fd : FuncData) (ps : List Str) (ds : List Value) : Prop :=
  ∀ (s : Shared) (us : List Value), K.In s.heap → (us ++ ds).length = ps.length → BindsTo s fd ⟨us, []⟩ (ps.zip (us ++ ds))
/-- every parameter is given -/
theorem Binds.all {K : PySem.W.Frag} {fd : FuncData} {ps : List Str} (h : ∀ us : List Value, us.length = ps.length → bindArgs fd ⟨us, []⟩ = pure (ps.zip us)) : Binds K fd ps [] := fun s us _ hl => by
  rw [List.append_nil] at hl ⊢
  exact .of_eq (h us hl)
/-- an exception of a callee reaches what this body wants of exceptions -/
def Passes (CX : CXT) (X : Cx) (E : XK) : Prop := ∀ (pins : List (Addr × Obj)) (σ : St) (H : Hp) (s : Shared) (e : Value) (s' : Shared), Inv X pins σ H s → CX X.stack H s E e s' → X.xe e s'
section
variable {X : Cx} {CX : CXT} {k : Nat} {f C : Addr} {fd : FuncData} {ps : List Str} {sp : Sp} {dvs : List V} {ds : List Value} {E : XK} {x m : Str} {p pos apos : Pos} {e o : Expr} {es : List Expr} {ta : TE} {t : TA}
/-- the callee runs -/
theorem run_fn {pins : List (Addr × Obj)} {σ : St} {H : Hp} {s : Shared} {Q : VK} {us : List Value} {vs : List V} (F : FnOk X.prog X.w X.K X.mg X.base CX k f fd ps sp) (hr : Room k X.A) (hb : Binds X.K fd ps ds) (hd : Vals dvs ds) (hx : Passes CX X E)
    (I : Inv X pins σ H s) (r : Vals vs us) (h : sp (vs ++ dvs) H Q E) : wpAny (model X.prog X.w) X.A (call (.ref f) us) (EP X pins σ Q) X.xe s := by
  have r2 : Vals (vs ++ dvs) (us ++ ds) := r.append hd
  have hl : (us ++ ds).length = ps.length := by rw [← r2.length]; exact F.len _ _ _ _ h
  refine wpAny_call (codeAny_mono (F.run X.A X.stack s H ⟨us, []⟩ (us ++ ds) (vs ++ dvs) Q E hr I.env0 (hb s us I.kIn hl) r2 h) fun r s' hq => ?_)
  cases r with
  | error e => exact hx pins σ H s e s' I hq
  | ok fl =>
    cases fl with
    | ret u => exact I.after hq
    | next => exact False.elim hq
    | brk => exact False.elim hq
    | cont => exact False.elim hq
theorem pe_call (F : FnOk X.prog X.w X.K X.mg X.base CX k f fd ps sp) (hr : Room k X.A) (hg : Gl X x) (hm : X.mg x = some (.ref f)) (hk : PySem.W.keepIn X.K (.ref f) = true) (hb : Binds X.K fd ps ds) (hd : Vals dvs ds) (hx : Passes CX X E)
    (ha : PA X (e :: es) t) (hdb : (x == ("__debug__" : Str)) = false := by decide) (he : starEach (e :: es) X.env = (false, eval e X.env) :: starEach es X.env := by rfl) (hpl : (backTo pos (starEach es X.env)).any (·.1) = false := by rfl) :
    PE X (.Call (.Name x p) (e :: es) [] pos) (tCall sp dvs E t) := by
  intro pins s σ H Q I h
  refine wpAny_Call_Name_kw (ld_glob I hg hm ?_ hdb)
  refine PySem.W.callWith_K (h₀ := X.base) I.ok.mod.kin hk (thn (ha pos pins s σ H _ I h) fun us s1 ⟨vs, H1, I1, r, q⟩ => ⟨I1.kIn, ?_⟩) he hpl
  exact run_fn F hr hb hd hx I1 r q
/-- what a class must have to be made -/
structure Mk (K : PySem.W.Frag) (C f : Addr) : Prop where
  makes : PySem.W.makesIn K C = true
  init : PySem.W.findIn K (.ref C) "__init__" = some (some (.ref f))
  fn : PySem.W.isFn K (.ref f) = true
  kp : PySem.W.keepIn K (.ref C) = true
theorem run_make {pins : List (Addr × Obj)} {σ : St} {H : Hp} {s : Shared} {Q : VK} {us : List Value} {vs : List V} (M : Mk X.K C f) (F : FnOk X.prog X.w X.K X.mg X.base CX k f fd ps sp) (hr : Room (k + 1) X.A) (hb : Binds X.K fd ps ds) (hd : Vals dvs ds)
    (hx : Passes CX X E) (I : Inv X pins σ H s) (r : Vals vs us)
    (h : ∀ x dx, H x = none → H dx = none → dx ≠ x → sp (.ref x :: (vs ++ dvs)) (upd (upd H dx (.own x)) x (.ins C dx [])) (fun v H2 => v = .non ∧ Q (.ref x) H2) E) :
    wpAny (model X.prog X.w) X.A (call (.ref C) us) (EP X pins σ Q) X.xe s := by
  have hq := h (s.heap.objs.size + 1) s.heap.objs.size (I.hok.fresh (Nat.le_succ _)) (I.hok.fresh (Nat.le_refl _)) (Nat.ne_of_lt (Nat.lt_succ_self _))
  have I2 := Inv.made (C := C) I
  have r2 : Vals (V.ref (s.heap.objs.size + 1) :: (vs ++ dvs)) (Value.ref (s.heap.objs.size + 1) :: (us ++ ds)) := .cons rfl (r.append hd)
  have hl : (Value.ref (s.heap.objs.size + 1) :: us ++ ds).length = ps.length := by
    have e := r2.length
    rw [F.len _ _ _ _ hq] at e
    exact e.symm
  refine wpAny_call (make_map (f := f) I.kIn M.makes M.init (beq_iff_eq.mp M.fn) (codeAny_mono (F.run _ X.stack _ _ ⟨Value.ref (s.heap.objs.size + 1) :: us, []⟩ (Value.ref (s.heap.objs.size + 1) :: (us ++ ds)) _ _ E (hr.make C us [])
    (I2.env0.make C us []) (hb _ (Value.ref (s.heap.objs.size + 1) :: us) I2.kIn hl) r2 hq) fun r s' hq' => ?_))
  cases r with
  | error e => exact hx pins σ _ _ e s' I2 hq'
  | ok fl =>
    cases fl with
    | ret u =>
      obtain ⟨v, H', I3, rv, ev, q3⟩ := I2.after hq'
      subst ev
      exact ⟨rv, ⟨V.ref (s.heap.objs.size + 1), H', I3, rfl, q3⟩⟩
    | next => exact False.elim hq'
    | brk => exact False.elim hq'
    | cont => exact False.elim hq'
theorem pe_make (M : Mk X.K C f) (F : FnOk X.prog X.w X.K X.mg X.base CX k f fd ps sp) (hr : Room (k + 1) X.A) (hg : Gl X x) (hm : X.mg x = some (.ref C)) (hb : Binds X.K fd ps ds) (hd : Vals dvs ds) (hx : Passes CX X E)
    (ha : PA X (e :: es) t) (hdb : (x == ("__debug__" : Str)) = false := by decide) (he : starEach (e :: es) X.env = (false, eval e X.env) :: starEach es X.env := by rfl) (hpl : (backTo pos (starEach es X.env)).any (·.1) = false := by rfl) :
    PE X (.Call (.Name x p) (e :: es) [] pos) (tMake C sp dvs E t) := by
  intro pins s σ H Q I h
  refine wpAny_Call_Name_kw (ld_glob I hg hm ?_ hdb)
  refine PySem.W.callWith_K (h₀ := X.base) I.ok.mod.kin M.kp (thn (ha pos pins s σ H _ I h) fun us s1 ⟨vs, H1, I1, r, q⟩ => ⟨I1.kIn, ?_⟩) he hpl
  exact run_make M F hr hb hd hx I1 r q
theorem pe_make0 (M : Mk X.K C f) (F : FnOk X.prog X.w X.K X.mg X.base CX k f fd ps sp) (hr : Room (k + 1) X.A) (hg : Gl X x) (hm : X.mg x = some (.ref C)) (hb : Binds X.K fd ps ds) (hd : Vals dvs ds) (hx : Passes CX X E)
    (hdb : (x == ("__debug__" : Str)) = false := by decide) : PE X (.Call (.Name x p) [] [] pos) (tMake C sp dvs E tNil) := by
  intro pins s σ H Q I h
  refine wpAny_Call_Name_kw (ld_glob I hg hm ?_ hdb)
  exact PySem.W.callWith_K0 I.kIn M.kp (run_make (us := []) M F hr hb hd hx I .nil h)
end
section
variable {X : Cx} {CX : CXT} {k : Nat} {f C : Addr} {fd : FuncData} {ps ks : List Str} {sp : Sp} {E : XK} {x m : Str} {p pos apos kpos : Pos} {e o : Expr} {es : List Expr} {kws : List Keyword} {te ta : TE} {t tk : TA} {nm : Option Str}
variable {g : List Value → List Value → List Value} {gV : List V → List V → List V}
end
/-- names: the parameters first -/
structure FnScope (N P : List Str) (sc : Scope) : Prop where
  kind : sc.kind = .function
  co : sc.isCoroutine = false
  gen : sc.isGenerator = false
  nd : N.Nodup
  pre : N.take P.length = P
  par : ∀ x ∈ P, sc.names.lookup x = some .local ∨ sc.names.lookup x = some .cell
  nofree : ∀ y ∈ sc.names, y.2 ≠ .free
theorem bindL_out {kindOf : Str → Option NameKind} {x : Str} : ∀ {binds : List (Str × Value)} {m : Str → Option Value}, (∀ v, (x, v) ∉ binds) → bindL kindOf binds m x = m x
  | [], _, _ => rfl
  | (n, v) :: r, m, h => by
    unfold bindL
    rw [bindL_out fun w hw => h w (List.mem_cons_of_mem _ hw)]
    split
    · have : x ≠ n := by rintro rfl; exact h v List.mem_cons_self
      simp [this]
    · rfl
theorem bindC_out {kindOf : Str → Option NameKind} {x : Str} : ∀ {binds : List (Str × Value)} {m : Str → Option Value}, (∀ v, (x, v) ∉ binds) → bindC kindOf binds m x = m x
  | [], _, _ => rfl
  | (n, v) :: r, m, h => by
    unfold bindC
    rw [bindC_out fun w hw => h w (List.mem_cons_of_mem _ hw)]
    split
    · rfl
    · have : x ≠ n := by rintro rfl; exact h v List.mem_cons_self
      simp [this]
theorem bindL_get {kindOf : Str → Option NameKind} {x : Str} {v : Value} : ∀ {P : List Str} {vs : List Value} {i : Nat} {m : Str → Option Value}, P.Nodup → P[i]? = some x → vs[i]? = some v → kindOf x = some .local →
    bindL kindOf (P.zip vs) m x = some v
  | [], _, _, _, _, h, _, _ => by simp at h
  | _ :: _, [], _, _, _, _, h, _ => by simp at h
  | p :: P, w :: vs, 0, m, nd, h1, h2, hk => by
    simp at h1 h2; subst h1; subst h2
    show bindL kindOf ((p, w) :: P.zip vs) m p = _
    unfold bindL
    rw [bindL_out fun v hv => (List.nodup_cons.mp nd).1 (List.of_mem_zip hv).1, if_pos hk]
    simp
  | p :: P, w :: vs, i + 1, m, nd, h1, h2, hk => by
    show bindL kindOf ((p, w) :: P.zip vs) m x = _
    unfold bindL
    exact bindL_get (i := i) (List.nodup_cons.mp nd).2 (by simpa using h1) (by simpa using h2) hk
theorem bindC_get {kindOf : Str → Option NameKind} {x : Str} {v : Value} : ∀ {P : List Str} {vs : List Value} {i : Nat} {m : Str → Option Value}, P.Nodup → P[i]? = some x → vs[i]? = some v → kindOf x ≠ some .local →
    bindC kindOf (P.zip vs) m x = some v
  | [], _, _, _, _, h, _, _ => by simp at h
  | _ :: _, [], _, _, _, _, h, _ => by simp at h
  | p :: P, w :: vs, 0, m, nd, h1, h2, hk => by
    simp at h1 h2; subst h1; subst h2
    show bindC kindOf ((p, w) :: P.zip vs) m p = _
    unfold bindC
    rw [bindC_out fun v hv => (List.nodup_cons.mp nd).1 (List.of_mem_zip hv).1, if_neg hk]
    simp
  | p :: P, w :: vs, i + 1, m, nd, h1, h2, hk => by
    show bindC kindOf ((p, w) :: P.zip vs) m x = _
    unfold bindC
    exact bindC_get (i := i) (List.nodup_cons.mp nd).2 (by simpa using h1) (by simpa using h2) hk
/-- the names' values at the entry -/
def start (N : List Str) (vs : List V) : St := vs.map some ++ List.replicate (N.length - vs.length) none
/-- the context of a def's body, at its entry; an exception leaves the frame, then lies as CX says -/
def cxOf (CX : CXT) (P : Program) (w : World) (K : PySem.W.Frag) (mg : Str → Option Value) (base : Heap) (N : List Str) (qual : Str) (scope : Scope) (f : Addr) (cd : Value) (A : Around) (outer : List Env) (s : Shared) (H : Hp) (E : XK) : Cx where
  prog := P
  w := w
  K := K
  mg := mg
  base := base
  A := A.deeper (envOfC qual scope s.heap.objs.size f cd)
  N := N
  s_0 := s
  H_0 := H
  env := envOfC qual scope s.heap.objs.size f cd
  outer := outer
  stack := envOfC qual scope s.heap.objs.size f cd :: outer
  ex := []
  calm := true
  fn := fun _ => true
  pn := []
  xe := fun e s' => wpAny (model P w) (A.deeper (envOfC qual scope s.heap.objs.size f cd)) (leaving (envOfC qual scope s.heap.objs.size f cd) e) (fun _ s'' => CX outer H s E e s'') (fun e' s'' => CX outer H s E e' s'') s'
theorem cell_has {sc : Scope} {n : Nat} {x : Str} (h : sc.names.lookup x = some .cell) : ∃ c, (cellsFrom n sc.names []).lookup x = some c := by
  have q := PySem.W.cellsFrom_some sc.names n [] (.inl h)
  exact Option.isSome_iff_exists.mp q
theorem inv_start {CX : CXT} {P : Program} {w : World} {K : PySem.W.Frag} {mg : Str → Option Value} {base : Heap} {N ps : List Str} {qual : Str} {scope : Scope} {f : Addr} {cd : Value} {A : Around} {outer : List Env} {s s1 : Shared} {H : Hp} {E : XK} {us : List Value} {vs : List V}
    (S : FnScope N ps scope) (hd : A.handled = none) (e0 : Env0 P w K mg base A outer s H) (hl : vs.length = ps.length) (r : Vals vs us)
    (x : InCallC s s.heap.objs.size (bindL (envOfC qual scope s.heap.objs.size f cd).kindOf (ps.zip us) fun _ => none) (cellsFrom (s.heap.objs.size + 1) scope.names []) (bindC (envOfC qual scope s.heap.objs.size f cd).kindOf (ps.zip us) fun _ => none) s1) :
    Inv (cxOf CX P w K mg base N qual scope f cd A outer s H E) [] (start N vs) H s1 := by
  have hpl : ps.length ≤ N.length := by have := congrArg List.length S.pre; rw [List.length_take] at this; omega
  obtain ⟨h1, tk, rfl, hk⟩ := x.done
  have noA : ∀ b : Addr, b ∉ (cxOf CX P w K mg base N qual scope f cd A outer s H E).ex := fun b z => absurd (show b ∈ ([] : List Addr) from z) (by simp)
  refine ⟨⟨e0.mod, S.kind, rfl, rfl, Nat.le_refl _, fun y z c h1 h2 => ?_, fun y hy => ?_, fun y c _ h => ?_, fun _ => hd, Around.frames_deeper e0.frames, .inr ⟨rfl, rfl⟩, fun b z => absurd z (noA b), e0.bs, e0.bsz, fun b _ _ => noA b, fun b z => absurd z (noA b), e0.funs, e0.frf⟩,
    rfl, e0.bare, Un.kept hk, ⟨_, x.toInCall.ns, fun i y v h1 h2 h3 => ?_⟩, fun y c h => ⟨_, x.cell y c h⟩, e0.hok.fresh (Nat.le_refl _), fun y c h => ?_, fun p hp => absurd (show p ∈ ([] : List (Addr × Obj)) from hp) (by simp), e0.hok.kept hk, ?_⟩
  · exact name_of_addr x.apart (PySem.mem_of_lookup h1) (PySem.mem_of_lookup h2)
  · have hy : scope.names.lookup y = some .cell ∨ scope.names.lookup y = some .free := hy
    rcases hy with hy | hy
    · exact cell_has hy
    · exact absurd rfl (S.nofree _ (PySem.mem_of_lookup hy))
  · exact Nat.le_of_lt (x.above y c (PySem.mem_of_lookup h))
  · have hi : i < vs.length := by
      unfold start at h2
      by_cases hi : i < vs.length
      · exact hi
      · rw [List.getElem?_append_right (by simpa using hi)] at h2
        rw [List.getElem?_replicate] at h2
        split at h2 <;> cases h2
    have ha : vs[i]? = some v := by
      unfold start at h2
      rw [List.getElem?_append_left (by simpa using hi), List.getElem?_map] at h2
      cases e : vs[i]? with
      | none => rw [e] at h2; cases h2
      | some a => rw [e] at h2; cases h2; rfl
    obtain ⟨u, hu, rv⟩ := r.get ha
    have hp : ps[i]? = some y := by
      rw [← S.pre, List.getElem?_take_of_lt (by omega)]; exact h1
    have ndP : ps.Nodup := by rw [← S.pre]; exact S.nd.sublist (List.take_sublist _ _)
    refine ⟨u, rv, ?_⟩
    rcases S.par y (List.mem_of_getElem? hp) with k | k
    · exact .inl ⟨k, bindL_get ndP hp hu k⟩
    · obtain ⟨c, e⟩ := cell_has (n := s.heap.objs.size + 1) k
      refine .inr ⟨.inl k, c, e, ?_⟩
      have q := x.cell y c e
      rw [bindC_get ndP hp hu (by show scope.names.lookup y ≠ _; rw [k]; decide)] at q
      exact q
  · exact e0.hok.fresh (Nat.le_of_lt (x.above y c (PySem.mem_of_lookup h)))
  · unfold start
    show _ = N.length
    rw [List.length_append, List.length_map, List.length_replicate]
    omega
/-- THE RULE: a def (or a method) of the text, by its body. The body's reading t is chosen for each entry; it is run at the parameters' values -/
theorem fn_of {CX : CXT} {P : Program} {w : World} {K : PySem.W.Frag} {mg : Str → Option Value} {base : Heap} {k : Nat} {f : Addr} {name qual : Str} {params : Arguments} {body : List Stmt} {scope : Scope} {dV kV doc pm cdv ct oc : Value} {an od : Option Addr}
    {osl : Array (Option Value)} {N ps : List Str} {sp : Sp} (lk : K.lookup f = some ⟨oc, od, .func (PySem.W.fnOf name qual params body scope dV kV doc pm an cdv ct), osl⟩) (hcd : PySem.W.codeIn K cdv qual = true) (S : FnScope N ps scope)
    (len : ∀ vs H Q E, sp vs H Q E → vs.length = ps.length)
    (hbody : ∀ (A : Around) (outer : List Env) (s : Shared) (H : Hp) (vs : List V) (Q : VK) (E : XK), Room k (A.deeper (envOfC qual scope s.heap.objs.size f cdv)) → sp vs H Q E →
      ∃ t, PSs (cxOf CX P w K mg base N qual scope f cdv A outer s H E) body t ∧ t { nx := fun _ H' => Q .non H', rt := Q } (start N vs) H) :
    FnOk P w K mg base CX (k + 1) f (PySem.W.fnOf name qual params body scope dV kV doc pm an cdv ct) ps sp := by
  refine ⟨len, fun A outer s H args us vs Q E hr e0 hb r hsp => ?_⟩
  have hl := len _ _ _ _ hsp
  have KX : K.In s.heap := e0.mod.kin.keeps fun b o e => (e0.bs b o e).1
  have lim : s.heap.NoLimit := e0.mod.nolimit.keeps fun b o e => (e0.bs b o e).1
  have hkind : ∀ y ∈ ps.zip us, scope.names.lookup y.1 = some .local ∨ (scope.names.lookup y.1 = some .cell ∧ ((cellsFrom (s.heap.objs.size + 1) scope.names []).lookup y.1).isSome = true) := fun ⟨n, v⟩ hy => by
    rcases S.par n (List.of_mem_zip hy).1 with q | q
    · exact .inl q
    · exact .inr ⟨q, PySem.W.cellsFrom_some _ _ _ (.inl q)⟩
  refine codeAny_call_function hr.depth (KX _ _ lk) rfl S.co S.gen rfl (PySem.W.codeRec_of KX hcd) (hb _ _ _ _ ?_)
  refine wpAny_newFunctionEnv_cells S.kind hkind fun env he s1 x => ?_
  subst he
  refine ⟨lim.keeps x.toInCall.keep, codeAny_func ?_⟩
  obtain ⟨t, ht, hq⟩ := hbody A outer s H vs Q E (hr.deeper _) hsp
  have I : Inv (cxOf CX P w K mg base N qual scope f cdv A outer s H E) [] (start N vs) H s1 := inv_start S hr.hd e0 hl r x
  refine wpAny_mono (ht [] s1 (start N vs) H _ I hq) (fun fl s' hs => ?_) fun e s' hs => hs
  have fin : ∀ {σ' : St} {H' : Hp} {v : V} {u : Value}, Inv (cxOf CX P w K mg base N qual scope f cdv A outer s H E) [] σ' H' s' → RelV v u → Q v H' → CE outer P w H s Q u s' :=
    fun {σ' H' v u} J rv q => ⟨v, H', J.os, J.bare, J.base, J.hok, rv, q⟩
  cases fl with
  | ret u =>
    obtain ⟨v, σ', H', J, rv, q⟩ := hs
    exact fin J rv q
  | next =>
    obtain ⟨σ', H', J, q⟩ := hs
    exact fin (v := V.non) (u := Value.none) J rfl q
  | brk =>
    obtain ⟨_, _, _, q⟩ := hs
    exact False.elim q
  | cont =>
    obtain ⟨_, _, _, q⟩ := hs
    exact False.elim q
end L2
namespace L2
open PySem PySem.Spec PyProof.Rows
section
variable {X : Cx} {x : Str} {p pos : Pos} {e : Expr} {es : List Expr} {t : TA} {id T : String} {r : List V → Hp → VK → Prop}
def tCB (r : List V → Hp → VK → Prop) (t : TA) : TE := fun σ H Q => t σ H fun vs H1 => r vs H1 Q
/-- f(e, ..), f a built-in function -/
theorem pe_callB (hc : CallR X (.builtin id) r) (hg : Gl X x) (hm : X.mg x = none) (hv : bootBuiltins x = some (.builtin id)) (ha : PA X (e :: es) t) (hn : x ≠ "__name__" := by decide) (hdb : (x == ("__debug__" : Str)) = false := by decide)
    (he : starEach (e :: es) X.env = (false, eval e X.env) :: starEach es X.env := by rfl) (hpl : (backTo pos (starEach es X.env)).any (·.1) = false := by rfl) : PE X (.Call (.Name x p) (e :: es) [] pos) (tCB r t) := by
  intro pins s σ H Q I h
  refine wpAny_Call_Name_kw (ld_blt I hg hm hv ?_ hn hdb)
  exact PyProof.Rows.callWith_builtin1 (thn (ha pos pins s σ H _ I h) fun us s1 ⟨vs, H1, I1, r1, q1⟩ => hc pins s1 σ H1 vs us Q I1 r1 q1) he hpl
/-- T(e, ..), T a built-in type -/
theorem pe_callTy (hc : CallR X (.type T) r) (hg : Gl X x) (hm : X.mg x = none) (hv : bootBuiltins x = some (.type T)) (ha : PA X (e :: es) t) (hn : x ≠ "__name__" := by decide) (hdb : (x == ("__debug__" : Str)) = false := by decide)
    (he : starEach (e :: es) X.env = (false, eval e X.env) :: starEach es X.env := by rfl) (hpl : (backTo pos (starEach es X.env)).any (·.1) = false := by rfl) : PE X (.Call (.Name x p) (e :: es) [] pos) (tCB r t) := by
  intro pins s σ H Q I h
  refine wpAny_Call_Name_kw (ld_blt I hg hm hv ?_ hn hdb)
  exact PyProof.Rows.callWith_type1 (thn (ha pos pins s σ H _ I h) fun us s1 ⟨vs, H1, I1, r1, q1⟩ => hc pins s1 σ H1 vs us Q I1 r1 q1) he hpl
end
end L2
namespace HT
open PySem PyProof.Rows
section
open PySem.SeqAt
open PySem.AutoSeq1 (wpAny_loadPart')
open PySem.MeetsSeq PySem.MeetsSeq2 PySem.MeetsSeq3
end
section
variable {prog : Program} {w : World} {A : Around} {E : Value → Shared → Prop} {s : Shared}
/-- a slice's bound as a place among n (d where it is left out) -/
def sIx (n d : Nat) : Option Int → Nat
  | none => d
  | some v => if v < 0 then (v + (n : Int)).toNat else min v.toNat n
theorem sIx_none (n d : Nat) : sIx n d none = d := rfl
theorem sIx_nat (n d k : Nat) : sIx n d (some (k : Int)) = min k n := by
  show (if (k : Int) < 0 then ((k : Int) + (n : Int)).toNat else min (k : Int).toNat n) = min k n
  rw [if_neg (by omega), Int.toNat_natCast]
end
end HT
namespace L2
open PySem PySem.Spec PyProof.Rows
abbrev TO := St → Hp → (Option Int → Hp → Prop) → Prop
/-- a slice's part (left out, or an int) -/
def PO (X : Cx) (e : Option Expr) (t : TO) : Prop :=
  ∀ (pins : List (Addr × Obj)) (s : Shared) (σ : St) (H : Hp) (Q : Option Int → Hp → Prop), Inv X pins σ H s → t σ H Q →
    wpAny (model X.prog X.w) X.A (evalPart e X.env) (fun u s' => ∃ o H', Inv X pins σ H' s' ∧ IsPart u o ∧ Q o H') X.xe s
def tNoPart : TO := fun _ H Q => Q none H
def tPart (t : TE) : TO := fun σ H Q => t σ H fun x H1 => ∃ i, x = .int i ∧ Q (some i) H1
section
variable {X : Cx} {e : Expr} {te : TE} {lo hi : Option Expr} {tl th : TO} {pos p2 : Pos}
theorem po_none : PO X none tNoPart := by
  intro pins s σ H Q I h
  rw [evalPart_none]
  exact wpAny_pure ⟨none, H, I, .none, h⟩
theorem po_some (h : PE X e te) : PO X (some e) (tPart te) := by
  intro pins s σ H Q I hw
  rw [evalPart_some]
  refine thn (h pins s σ H _ I hw) fun u s1 ⟨x, H1, I1, r1, q1⟩ => ?_
  obtain ⟨i, rfl, q⟩ := q1
  obtain ⟨t, rfl⟩ := r1
  exact ⟨some i, H1, I1, .int i t, q⟩
/-- what a slice of a value is, by values: the slice object stands at sl -/
def SlR (X : Cx) (r : V → Option Int → Option Int → Hp → VK → Prop) : Prop :=
  ∀ (pins : List (Addr × Obj)) (s : Shared) (σ : St) (H : Hp) (x : V) (v vl vu : Value) (lo hi : Option Int) (sl : Addr) (Q : VK), Inv X pins σ H s → RelV x v → s.heap.IsSliceOf sl vl vu .none → IsPart vl lo → IsPart vu hi → r x lo hi H Q →
    ∃ T id, typeLookup (.type T) "__getitem__" = pure (some (.builtin id)) ∧ s.TypeIs v T ∧ wpAny (model X.prog X.w) X.A (getItem v (.ref sl)) (EP X pins σ Q) X.xe s
theorem SlR.or {r r' : V → Option Int → Option Int → Hp → VK → Prop} (h : SlR X r) (h' : SlR X r') : SlR X (fun x lo hi H Q => r x lo hi H Q ∨ r' x lo hi H Q) := by
  intro pins s σ H x v vl vu lo hi sl Q I rx hs pl pu q
  rcases q with q | q
  · exact h pins s σ H x v vl vu lo hi sl Q I rx hs pl pu q
  · exact h' pins s σ H x v vl vu lo hi sl Q I rx hs pl pu q
def tSl (r : V → Option Int → Option Int → Hp → VK → Prop) (te : TE) (tl th : TO) : TE := fun σ H Q => te σ H fun x H1 => tl σ H1 fun l H2 => th σ H2 fun u H3 => r x l u H3 Q
/-- a[lo:hi], any a -/
theorem pe_slice {r : V → Option Int → Option Int → Hp → VK → Prop} (hr : SlR X r) (he : PE X e te) (hl : PO X lo tl) (hu : PO X hi th) : PE X (.Subscript e (.Slice lo hi none p2) pos) (tSl r te tl th) := by
  intro pins s σ H Q I h
  refine Subscript_ (thn (he pins s σ H _ I h) fun v s1 ⟨x, H1, I1, r1, q1⟩ => ?_)
  refine wpAny_Slice (thn (hl pins s1 σ H1 _ I1 q1) fun vl s2 ⟨l, H2, I2, pl, q2⟩ => thn (hu pins s2 σ H2 _ I2 q2) fun vu s3 ⟨u, H3, I3, pu, q3⟩ => ?_)
  rw [evalPart_none]
  refine wpAny_pure ?_
  have I4 : Inv X pins σ H3 { s3 with heap := s3.heap.push { cls := .type "slice", data := .fields #[vl, vu, .none] } } := I3.kept (t' := s3.toks) fun b ob q => Heap.get?_push_of_some _ q
  obtain ⟨T, id, hT, ht, hg⟩ := hr pins { s3 with heap := s3.heap.push { cls := .type "slice", data := .fields #[vl, vu, .none] } } σ H3 x v vl vu l u s3.heap.objs.size Q I4 r1 (Heap.IsSliceOf.new ..) pl pu q3
  show wpAny (model X.prog X.w) X.A (subscriptTail e (.Slice lo hi none p2) v (.ref s3.heap.objs.size)) (EP X pins σ Q) X.xe { s3 with heap := s3.heap.push { cls := .type "slice", data := .fields #[vl, vu, .none] } }
  exact tail_any (ops := [.ref s3.heap.objs.size, v]) ht hT hg (by with_unfolding_all rfl)
/-- the items of xs[lo:hi] -/
def cutV (xs : List V) (lo hi : Option Int) : List V := (xs.drop (HT.sIx xs.length 0 lo)).take (HT.sIx xs.length xs.length hi - HT.sIx xs.length 0 lo)
theorem cutV_length (xs : List V) (lo hi : Option Int) : (cutV xs lo hi).length ≤ xs.length := by
  unfold cutV
  rw [List.length_take, List.length_drop]
  omega
end
end L2
namespace L2
open PySem PySem.Spec PyProof.Rows
/-- the place that an index of any sign means -/
def ixN (n : Nat) (i : Int) : Option Nat := if 0 ≤ i then (if i < n then some i.toNat else none) else if -(n : Int) ≤ i then some (i + n).toNat else none
def atI {α : Type} (xs : List α) (i : Int) : Option α := (ixN xs.length i).bind fun j => xs[j]?
theorem ixN_seq {n : Nat} {i : Int} {j : Nat} (h : ixN n i = some j) : seqIndex? i n = some j ∧ j < n ∧ -(n : Int) ≤ i ∧ i < n := by
  unfold ixN at h
  by_cases h0 : 0 ≤ i
  · rw [if_pos h0] at h
    by_cases h1 : i < n
    · rw [if_pos h1] at h
      have e : i.toNat = j := Option.some.inj h
      exact ⟨by rw [seqIndex_of h0 h1, e], by omega, by omega, h1⟩
    · rw [if_neg h1] at h; cases h
  · rw [if_neg h0] at h
    by_cases h1 : -(n : Int) ≤ i
    · rw [if_pos h1] at h
      have e : (i + n).toNat = j := Option.some.inj h
      exact ⟨by rw [seqIndex_neg (by omega) h1, e], by omega, h1, by omega⟩
    · rw [if_neg h1] at h; cases h
theorem atI_get {α : Type} {xs : List α} {i : Int} {v : α} (h : atI xs i = some v) : ∃ j, seqIndex? i xs.length = some j ∧ xs[j]? = some v ∧ j < xs.length ∧ -(xs.length : Int) ≤ i ∧ i < xs.length := by
  unfold atI at h
  cases e : ixN xs.length i with
  | none => rw [e] at h; cases h
  | some j =>
    rw [e] at h
    obtain ⟨h1, h2, h3, h4⟩ := ixN_seq e
    exact ⟨j, h1, h, h2, h3, h4⟩
theorem atI_nat {α : Type} {xs : List α} {j : Nat} {v : α} (h : xs[j]? = some v) : atI xs (j : Int) = some v := by
  have hj : j < xs.length := (List.getElem?_eq_some_iff.mp h).1
  have e : ixN xs.length (j : Int) = some j := by
    unfold ixN
    rw [if_pos (by omega), if_pos (by omega)]; simp
  unfold atI; rw [e]; exact h
theorem atI_last {α : Type} (xs : List α) (v : α) : atI (xs ++ [v]) (-1) = some v := by
  have hl : (xs ++ [v]).length = xs.length + 1 := by simp
  have e : ixN (xs ++ [v]).length (-1) = some xs.length := by
    unfold ixN
    rw [hl, if_neg (by decide), if_pos (by omega)]
    congr 1
    omega
  unfold atI
  rw [e]
  show (xs ++ [v])[xs.length]? = some v
  simp
/-- what stands as an index of a plain subscript -/
def PlainIx (b : Expr) : Prop := ∀ o i, subscripted b false o i = operate [o, i] (getItem o i)
/-- a subscript by values -/
def IxR (X : Cx) (r : R2) : Prop :=
  ∀ (value slice : Expr) (pins : List (Addr × Obj)) (s : Shared) (σ : St) (H : Hp) (x y : V) (v u : Value) (Q : VK), Inv X pins σ H s → RelV x v → RelV y u → r x y H Q →
    subscripted slice false v u = operate [v, u] (getItem v u) → wpAny (model X.prog X.w) X.A (subscriptTail value slice v u) (EP X pins σ Q) X.xe s
/-- a call of a builtin's method by values: the receiver, the arguments -/
def MtR (X : Cx) (id : String) (r : V → List V → Hp → VK → Prop) : Prop :=
  ∀ (pins : List (Addr × Obj)) (s : Shared) (σ : St) (H : Hp) (x : V) (xs : List V) (v : Value) (us : List Value) (Q : VK), Inv X pins σ H s → RelV x v → Vals xs us → r x xs H Q →
    wpAny (model X.prog X.w) X.A (call (.builtin id) (v :: us)) (EP X pins σ Q) X.xe s
section
variable {X : Cx} {a b : Expr} {ta tb : TE} {pos : Pos}
theorem IxR.or {r r' : R2} (h : IxR X r) (h' : IxR X r') : IxR X (fun x y H Q => r x y H Q ∨ r' x y H Q) := by
  intro value slice pins s σ H x y v u Q I rx ry q hs
  rcases q with q | q
  · exact h value slice pins s σ H x y v u Q I rx ry q hs
  · exact h' value slice pins s σ H x y v u Q I rx ry q hs
theorem MtR.or {id : String} {r r' : V → List V → Hp → VK → Prop} (h : MtR X id r) (h' : MtR X id r') : MtR X id (fun x xs H Q => r x xs H Q ∨ r' x xs H Q) := by
  intro pins s σ H x xs v us Q I rx rs q
  rcases q with q | q
  · exact h pins s σ H x xs v us Q I rx rs q
  · exact h' pins s σ H x xs v us Q I rx rs q
/-- a[b] -/
theorem pe_ix {r : R2} (hr : IxR X r) (ha : PE X a ta) (hb : PE X b tb) (hs : PlainIx b) : PE X (.Subscript a b pos) (tOp r ta tb) := by
  intro pins s σ H Q I h
  exact Subscript_ (binT ha hb I h fun v u s2 x y H2 I2 rx ry q => hr a b pins s2 σ H2 x y v u Q I2 rx ry q (hs _ _))
def rIxL (K : PySem.W.Frag) : R2 := fun x y H Q => ∃ p xs i v, x = .ref p ∧ y = .int i ∧ SqL K H p xs ∧ atI xs i = some v ∧ Q v H
def rIxT (K : PySem.W.Frag) : R2 := fun x y H Q => ∃ p xs i v, x = .ref p ∧ y = .int i ∧ SqT K H p xs ∧ atI xs i = some v ∧ Q v H
theorem ix_list : IxR X (rIxL X.K) := by
  intro value slice pins s σ H x y v u Q I rx ry h hs
  obtain ⟨p, xs, i, z, rfl, rfl, hq, he, q⟩ := h
  cases rx
  obtain ⟨t, rfl⟩ := ry
  obtain ⟨its, r, pl, hz⟩ := I.list hq
  obtain ⟨j, h1, h2, h3, h4, h5⟩ := atI_get he
  obtain ⟨w, ew, rw'⟩ := r.get h2
  have hl := r.length
  have hn := line63
  have fin : EP X pins σ Q w s := ⟨z, H, I, rw', q⟩
  by_cases h0 : 0 ≤ i
  · have hj : i.toNat = j := by
      rw [seqIndex_of h0 h5] at h1
      exact Option.some.inj h1
    exact item_listR pl.isList h0 (by omega) (by rw [hj]; simpa using ew) fin hs
  · have hj : (i + (its.toArray.size : Int)).toNat = j := by
      rw [seqIndex_neg (by omega) h4] at h1
      rw [List.size_toArray, ← hl]
      exact Option.some.inj h1
    exact subscriptTail_builtinR (x := w) pl.isList.typeIs slot_list_getitem.lookup
      (wpAny_getItem_list_neg (Q := fun r s' => r = w ∧ EP X pins σ Q r s') pl.isList (by omega) (by rw [List.size_toArray] <;> omega) (by omega) (by rw [hj]; simpa using ew) ⟨rfl, fin⟩) hs
theorem ix_tup : IxR X (rIxT X.K) := by
  intro value slice pins s σ H x y v u Q I rx ry h hs
  obtain ⟨p, xs, i, z, rfl, rfl, hq, he, q⟩ := h
  cases rx
  obtain ⟨t, rfl⟩ := ry
  obtain ⟨its, r, pl, hz⟩ := I.tuple hq
  obtain ⟨j, h1, h2, h3, h4, h5⟩ := atI_get he
  obtain ⟨w, ew, rw'⟩ := r.get h2
  have hl := r.length
  have hn := line63
  have fin : EP X pins σ Q w s := ⟨z, H, I, rw', q⟩
  exact subscriptTail_builtinR (x := w) pl.typeIs slot_tuple_getitem.lookup
    (getItem_tuple (j := j) (Q := fun r s' => r = w ∧ EP X pins σ Q r s') pl (by omega) (by omega) (by rw [List.size_toArray, ← hl]; exact h1) (by simpa using ew) ⟨rfl, fin⟩) hs
theorem Inv.lst {pins : List (Addr × Obj)} {σ : St} {H : Hp} {s : Shared} {p : Addr} {xs : List V} (I : Inv X pins σ H s) (h : H p = some (.lst xs)) :
    ∃ (its : List Value) (n : Nat), Vals xs its ∧ s.heap.get? p = some { cls := .type "list", data := .seq its.toArray n } ∧ xs.length ≤ sizeLine := by
  obtain ⟨z, its, n, r, e⟩ := I.hok p _ h
  exact ⟨its, n, r, e, z⟩
theorem slice_bounds (lo hi : Option Int) (n : Nat) : (sliceBounds lo hi none n).1 = ((HT.sIx n 0 lo : Nat) : Int) ∧ (sliceBounds lo hi none n).2.1 = ((HT.sIx n n hi : Nat) : Int) ∧ (sliceBounds lo hi none n).2.2 = 1 := by
  refine ⟨?_, ?_, rfl⟩
  · cases lo with
    | none => simp [sliceBounds, HT.sIx]
    | some i =>
      simp only [sliceBounds, HT.sIx, Option.getD_none, show (1 : Int) > 0 by decide, if_true]
      by_cases h : i < 0
      · simp only [h, if_true] <;> omega
      · simp only [h, if_false] <;> omega
  · cases hi with
    | none => simp [sliceBounds, HT.sIx]
    | some i =>
      simp only [sliceBounds, HT.sIx, Option.getD_none, show (1 : Int) > 0 by decide, if_true]
      by_cases h : i < 0
      · simp only [h, if_true] <;> omega
      · simp only [h, if_false] <;> omega
theorem slicePick_cut (its : List Value) (lo hi : Option Int) : slicePick its.toArray lo hi none = ((its.drop (HT.sIx its.length 0 lo)).take (HT.sIx its.length its.length hi - HT.sIx its.length 0 lo)).toArray := by
  obtain ⟨h1, h2, h3⟩ := slice_bounds lo hi its.toArray.size
  unfold slicePick
  rw [h1, h2, h3]
  simp only [sliceRange_one, pick_run, List.size_toArray] <;> rfl
/-- xs[lo:hi] of a list: a new list -/
def rSlL (K : PySem.W.Frag) : V → Option Int → Option Int → Hp → VK → Prop := fun x lo hi H Q => ∃ a xs, x = .ref a ∧ SqL K H a xs ∧ ∀ p, H p = none → Q (.ref p) (upd H p (.lst (cutV xs lo hi)))
theorem sl_list : SlR X (rSlL X.K) := by
  intro pins s σ H x v vl vu lo hi sl Q I rx hs pl pu h
  obtain ⟨a, xs, rfl, hx, q⟩ := h
  cases rx
  obtain ⟨its, r, ht, hz⟩ := I.list hx
  have hlen := r.length
  refine ⟨"list", _, slot_list_getitem.lookup, ht.isList.typeIs, ?_⟩
  refine wpAny_getItem_list_slice ht.isList hs pl pu .none (by simp) ?_ (by rw [List.size_toArray] <;> omega)
  rw [slicePick_cut, ← hlen]
  refine ⟨.ref s.heap.objs.size, _, I.laid (t' := s.toks) (o := .lst (cutV xs lo hi)) (fun b ob q => Heap.get?_push_of_some _ q) (Nat.le_refl _) ?_, rfl, q _ (I.hok.fresh (Nat.le_refl _))⟩
  exact ⟨Nat.le_trans (cutV_length xs lo hi) hz, _, 0, (r.drop (HT.sIx xs.length 0 lo)).take (HT.sIx xs.length xs.length hi - HT.sIx xs.length 0 lo), Heap.get?_push_size _ rfl⟩
def flatV : V → Bool
  | .non => true
  | .bl _ => true
  | .int _ => true
  | .str _ => true
  | _ => false
/-- == of flat values -/
def eqV : V → V → Bool
  | .non, .non => true
  | .bl a, .bl b => a == b
  | .bl a, .int b => (if a then 1 else 0) == b
  | .int a, .bl b => a == (if b then 1 else 0)
  | .int a, .int b => a == b
  | .str a, .str b => a == b
  | _, _ => false
theorem eqAt_V {A : Around} {s : Shared} {y x : V} {u v : Value} (ry : RelV y u) (rx : RelV x v) (fy : flatV y = true) (fx : flatV x = true) : SeqAt.EqAt A s u v (eqV y x) := by
  cases y with
  | non =>
    cases ry
    cases x with
    | non => cases rx; exact SeqAt.EqAt.same _
    | bl b => cases rx; exact SeqAt.EqAt.none_bool b
    | int b => obtain ⟨t, rfl⟩ := rx; exact SeqAt.EqAt.none_int b t
    | str b => obtain ⟨t, rfl⟩ := rx; exact SeqAt.EqAt.none_str b t
    | _ => exact absurd (show false = true from fx) Bool.false_ne_true
  | bl a =>
    cases ry
    cases x with
    | non => cases rx; exact SeqAt.EqAt.bool_none a
    | bl b => cases rx; exact SeqAt.EqAt.bool_bool a b
    | int b => obtain ⟨t, rfl⟩ := rx; exact SeqAt.EqAt.bool_int a b t
    | str b => obtain ⟨t, rfl⟩ := rx; exact SeqAt.EqAt.bool_str a b t
    | _ => exact absurd (show false = true from fx) Bool.false_ne_true
  | int a =>
    obtain ⟨t', rfl⟩ := ry
    cases x with
    | non => cases rx; exact SeqAt.EqAt.int_none a t'
    | bl b => cases rx; exact SeqAt.EqAt.int_bool a t' b
    | int b => obtain ⟨t, rfl⟩ := rx; exact SeqAt.EqAt.int_int a t' b t
    | str b => obtain ⟨t, rfl⟩ := rx; exact SeqAt.EqAt.int_str a t' b t
    | _ => exact absurd (show false = true from fx) Bool.false_ne_true
  | str a =>
    obtain ⟨t', rfl⟩ := ry
    cases x with
    | non => cases rx; exact SeqAt.EqAt.str_none a t'
    | bl b => cases rx; exact SeqAt.EqAt.str_bool a t' b
    | int b => obtain ⟨t, rfl⟩ := rx; exact SeqAt.EqAt.str_int a t' b t
    | str b => obtain ⟨t, rfl⟩ := rx; exact SeqAt.EqAt.str_str a t' b t
    | _ => exact absurd (show false = true from fx) Bool.false_ne_true
  | _ => exact absurd (show false = true from fy) Bool.false_ne_true
/-- the items' answers, read off the values (a value's own answer does not lean on its token) -/
def eqU (x : V) (u : Value) : Bool := match u with
  | .none => eqV .non x
  | .bool b => eqV (.bl b) x
  | .int i _ => eqV (.int i) x
  | .str z _ => eqV (.str z) x
  | _ => false
theorem eqU_of {x y : V} {u : Value} (r : RelV y u) (f : flatV y = true) : eqU x u = eqV y x := by
  cases y with
  | non => cases r; rfl
  | bl b => cases r; rfl
  | int i => obtain ⟨t, rfl⟩ := r; rfl
  | str z => obtain ⟨t, rfl⟩ := r; rfl
  | _ => exact absurd (show false = true from f) Bool.false_ne_true
theorem mem_eqAt {A : Around} {s : Shared} {x : V} {v : Value} (rx : RelV x v) (fx : flatV x = true) : ∀ {xs : List V} {us : List Value}, Vals xs us → xs.all flatV = true → ∀ u ∈ us, SeqAt.EqAt A s u v (eqU x u)
  | _, _, .nil, _ => fun u hu => by cases hu
  | y :: xs, u :: us, .cons r t, f => fun u' hu => by
    rw [List.all_cons, Bool.and_eq_true] at f
    rcases List.mem_cons.mp hu with rfl | hu
    · rw [eqU_of r f.1]; exact eqAt_V r rx f.1 fx
    · exact mem_eqAt rx fx t f.2 u' hu
theorem call_len_seq : CallR X (.builtin "len") (fun xs H Q => ∃ p ys, xs = [.ref p] ∧ (SqL X.K H p ys ∨ SqT X.K H p ys) ∧ Q (.int ys.length) H) := by
  intro pins s σ H xs us Q I r h
  obtain ⟨p, ys, rfl, hq, q⟩ := h
  obtain ⟨u, rfl, rx⟩ := vals1 r
  cases rx
  have hn := line63
  rcases hq with hq | hq
  · obtain ⟨its, r', pl, hz⟩ := I.list hq
    have hlen := r'.length
    exact Calls.call_len_list pl.isList (by simp only [List.size_toArray] <;> omega) ⟨.int ys.length, H, I.tok _, ⟨s.toks + 1, by rw [List.size_toArray, hlen]⟩, q⟩
  · obtain ⟨its, r', pl, hz⟩ := I.tuple hq
    have hlen := r'.length
    exact len_tuple pl (by simp only [List.size_toArray] <;> omega) ⟨.int ys.length, H, I.tok _, ⟨s.toks + 1, by rw [List.size_toArray, hlen]⟩, q⟩
theorem CallR.or {f : Value} {r r' : List V → Hp → VK → Prop} (h : CallR X f r) (h' : CallR X f r') : CallR X f (fun xs H Q => r xs H Q ∨ r' xs H Q) := by
  intro pins s σ H xs us Q I rs q
  rcases q with q | q
  · exact h pins s σ H xs us Q I rs q
  · exact h' pins s σ H xs us Q I rs q
/-- the value is of that builtin type -/
def tyV (K : PySem.W.Frag) (T : String) (x : V) (H : Hp) : Prop := match x with
  | .str _ => T = "str"
  | .int _ => T = "int"
  | .ref p => (T = "list" ∧ ∃ xs, SqL K H p xs) ∨ (T = "tuple" ∧ ∃ o, K.lookup p = some o ∧ o.cls = .type "tuple" ∧ o.dict = none) ∨
      (T = "dict" ∧ ((∃ kvs, H p = some (.dK kvs)) ∨ ∃ kvs, H p = some (.dT kvs))) ∨ (T = "set" ∧ ∃ S n, H p = some (.set S n))
  | _ => False
theorem tyV_is {pins : List (Addr × Obj)} {σ : St} {H : Hp} {s : Shared} {T : String} {x : V} {v : Value} (I : Inv X pins σ H s) (r : RelV x v) (ty : tyV X.K T x H) :
    s.TypeIs v T ∧ ∀ a, v = .ref a → ∃ ob, s.heap.get? a = some ob ∧ ob.dict = none := by
  cases x with
  | str z =>
    obtain ⟨t, rfl⟩ := r
    cases (show T = "str" from ty)
    exact ⟨typeIs_str s z t, fun _ e => nomatch e⟩
  | int i =>
    obtain ⟨t, rfl⟩ := r
    cases (show T = "int" from ty)
    exact ⟨typeIs_int s i t, fun _ e => nomatch e⟩
  | ref p =>
    cases r
    rcases ty with ⟨rfl, xs, hq⟩ | ⟨rfl, o, hk, hc, hd⟩ | ⟨rfl, hk⟩ | ⟨rfl, S, n, hk⟩
    · obtain ⟨its, _, pl, _⟩ := I.list hq
      refine ⟨pl.isList.typeIs, fun a e => ?_⟩
      cases e
      obtain ⟨o, n, e, c, hd, _⟩ := pl
      exact ⟨o, e, hd⟩
    · refine ⟨⟨o, I.kIn p o hk, hc⟩, fun a e => ?_⟩
      cases e
      exact ⟨o, I.kIn _ o hk, hd⟩
    · have z : ∃ o, s.heap.get? p = some o ∧ o.ExactDict := by
        rcases hk with ⟨kvs, hk⟩ | ⟨kvs, hk⟩
        · obtain ⟨_, _, _, _, o, _, _, e, ex, _⟩ := I.hok p _ hk
          exact ⟨o, e, ex⟩
        · obtain ⟨_, _, _, _, o, _, _, e, ex, _⟩ := I.hok p _ hk
          exact ⟨o, e, ex⟩
      obtain ⟨o, e, ex⟩ := z
      refine ⟨⟨o, e, ex.1⟩, fun a e2 => ?_⟩
      cases e2
      exact ⟨o, e, ex.2.1⟩
    · obtain ⟨o, _, _, _, e, ex, _⟩ := I.hok p _ hk
      refine ⟨⟨o, e, ex.1⟩, fun a e2 => ?_⟩
      cases e2
      exact ⟨o, e, ex.2.1⟩
  | _ => exact False.elim ty
def tBM (K : PySem.W.Frag) (T : String) (r : V → List V → Hp → VK → Prop) (to : TE) (t : TA) : TE := fun σ H Q => to σ H fun x H1 => tyV K T x H1 ∧ t σ H1 fun xs H2 => r x xs H2 Q
variable {o e : Expr} {es : List Expr} {to : TE} {t : TA} {name : Str} {apos cpos : Pos} {T id : String} {r : V → List V → Hp → VK → Prop}
theorem pe_bm (pa : PlainAttrs T) (slot : Slot T name id) (hty : typeOf (.builtin id) = pure (.type "method_descriptor")) (hm : MtR X id r) (ho : PE X o to) (ha : PA X (e :: es) t)
    (hbase : attributeBase o name X.env (eval o X.env) = eval o X.env := by rfl)
    (hfew : ((backTo cpos (starEach (e :: es) X.env)).all (fun x => !x.1) && (backToKw cpos (keywordEach [] X.env)).all (fun x => x.1.isSome)
      && decide ((e :: es).length + ([] : List Keyword).length + (if ([] : List Keyword).isEmpty then 0 else 1) < 30)) = true := by rfl)
    (hline : (apos.endLine == cpos.line) = true := by rfl) (hs : starEach (e :: es) X.env = (false, eval e X.env) :: starEach es X.env := by rfl) (hplain : (backTo cpos (starEach es X.env)).any (·.1) = false := by rfl) :
    PE X (.Call (.Attribute o name apos) (e :: es) [] cpos) (tBM X.K T r to t) := by
  intro pins s σ H Q I h
  refine wpAny_Call_method_late hbase hfew hline rfl (thn (ho pins s σ H _ I h) fun v s1 ⟨x, H1, I1, r1, ty, q1⟩ => ?_)
  obtain ⟨h1, h2⟩ := tyV_is I1 r1 ty
  refine ⟨T, id, pa, slot, hty, h1, h2, ?_⟩
  have hA := ha cpos pins s1 σ H1 _ I1 q1
  rw [hs] at hA ⊢
  refine Calls.callWith_builtin (by show (false || (backTo cpos (starEach es X.env)).any (·.1)) = false; rw [hplain] <;> rfl) (Calls.evalArgs_plain ?_)
  exact thn hA fun us s2 ⟨vs, H2, I2, r2, q2⟩ => hm pins s2 σ H2 x vs v us Q I2 r1 r2 q2
end
end L2
namespace L2
open PySem PySem.Spec PyProof.Rows
def MtM (X : Cx) (id : String) (r : V → List V → Hp → VK → Prop) : Prop :=
  ∀ (pins : List (Addr × Obj)) (s : Shared) (σ : St) (H : Hp) (x : V) (xs : List V) (v : Value) (us : List Value) (Q : VK), Inv X pins σ H s → RelV x v → Vals xs us → r x xs H Q →
    wpAny (model X.prog X.w) X.A (call (.builtin id) (v :: us)) (EP X pins σ Q) X.xe s
theorem Vals.one : ∀ {x : V} {us : List Value}, Vals [x] us → ∃ u, us = [u] ∧ RelV x u
  | _, _, .cons r .nil => ⟨_, rfl, r⟩
theorem Vals.two : ∀ {x y : V} {us : List Value}, Vals [x, y] us → ∃ u v, us = [u, v] ∧ RelV x u ∧ RelV y v
  | _, _, _, .cons r (.cons q .nil) => ⟨_, _, rfl, r, q⟩
theorem Vals.zero : ∀ {us : List Value}, Vals [] us → us = []
  | _, .nil => rfl
theorem Vals.dropLast {xs : List V} {us : List Value} (h : Vals xs us) : Vals xs.dropLast us.dropLast := by
  induction h with
  | nil => exact .nil
  | cons r t ih =>
    cases t with
    | nil => exact .nil
    | cons q t' => exact .cons r ih
theorem Vals.eraseIdx : ∀ {xs : List V} {us : List Value} (i : Nat), Vals xs us → Vals (xs.eraseIdx i) (us.eraseIdx i)
  | _, _, _, .nil => .nil
  | _, _, 0, .cons _ t => t
  | _, _, i + 1, .cons r t => .cons r (Vals.eraseIdx i t)
theorem Vals.rep {xs : List V} {us : List Value} (h : Vals xs us) : ∀ k : Nat, Vals (List.replicate k xs).flatten (List.replicate k us).flatten
  | 0 => .nil
  | k + 1 => by
    rw [List.replicate_succ, List.replicate_succ, List.flatten_cons, List.flatten_cons]
    exact Vals.append h (Vals.rep h k)
section
variable {X : Cx} {pins : List (Addr × Obj)} {σ : St} {H : Hp} {s : Shared} {l b : Addr} {xs ys zs : List V}
theorem Inv.lset {its its' : List Value} {n : Nat} {f : Array Value → Array Value} {t' : Nat} (I : Inv X pins σ H s) (hH : H l = some (.lst xs))
    (e : s.heap.get? l = some { cls := .type "list", data := .seq its.toArray n }) (hf : f its.toArray = its'.toArray) (hv : Vals ys its') (hz : ys.length ≤ sizeLine) :
    Inv X pins σ (upd H l (.lst ys)) { s with heap := s.heap.update l (Obj.mapSeq f), toks := t' } := by
  have q := PySem.IsL.update e f
  rw [hf] at q
  refine I.write (x := l) (e := l) (by rw [hH]; exact trivial) (.inl rfl) (fun b' u hb hu => (Heap.get?_update_other s.heap (Obj.mapSeq f) (Ne.symm hb)).trans hu) ⟨_, q⟩ ?_
  exact ⟨hz, its', _, hv, q⟩
theorem Inv.lnew {its : List Value} {t' : Nat} (I : Inv X pins σ H s) (hv : Vals ys its) (hz : ys.length ≤ sizeLine) :
    Inv X pins σ (upd H s.heap.objs.size (.lst ys)) { s with heap := s.heap.push { cls := .type "list", data := .seq its.toArray }, toks := t' } :=
  I.laid (fun _ _ q => Heap.get?_push_of_some _ q) (Nat.le_refl _) ⟨hz, its, 0, hv, Heap.get?_push_size _ rfl⟩
theorem Inv.fresh (I : Inv X pins σ H s) : H s.heap.objs.size = none := I.hok.fresh (Nat.le_refl _)
theorem Inv.lstM (I : Inv X pins σ H s) (hH : H l = some (.lst xs)) : xs.length ≤ sizeLine ∧ ∃ (its : List Value) (n : Nat), Vals xs its ∧ xs.length = its.length ∧ s.heap.get? l = some { cls := .type "list", data := .seq its.toArray n } := by
  obtain ⟨z, its, n, r, e⟩ := I.hok l _ hH
  exact ⟨z, its, n, r, r.length, e⟩
theorem notLongL {n : Nat} (h : n ≤ sizeLine) : Builtin.List.listTooLong n = false := by
  unfold Builtin.List.listTooLong
  exact decide_eq_false (by omega)
end
section
variable {X : Cx}
def rAppend : V → List V → Hp → VK → Prop := fun x vs H Q => ∃ l xs y, x = .ref l ∧ vs = [y] ∧ H l = some (.lst xs) ∧ xs.length < sizeLine ∧ Q .non (upd H l (.lst (xs ++ [y])))
theorem mt_append : MtM X "list.append" rAppend := by
  intro pins s σ H x vs v us Q I rx rv h
  obtain ⟨l, xs, y, rfl, rfl, hH, hz, q⟩ := h
  cases rx
  obtain ⟨u, rfl, ru⟩ := rv.one
  obtain ⟨z, its, n, r, hl, e⟩ := I.lstM hH
  refine call_meets F.slot_list_append ⟨_, e, rfl⟩ F.entry_list_append (F.args_list_append_2 _ _) (PySem.list_append l its.toArray n u (by rw [List.size_toArray]; omega)) ⟨e, ?_⟩
  refine ⟨.non, _, I.lset (its' := its ++ [u]) hH e (by simp) (r.append (.cons ru .nil)) ?_, rfl, q⟩
  rw [List.length_append, List.length_singleton]
  omega
def rExtend : V → List V → Hp → VK → Prop := fun x vs H Q => ∃ l b xs zs, x = .ref l ∧ vs = [.ref b] ∧ H l = some (.lst xs) ∧ H b = some (.lst zs) ∧ xs.length + zs.length ≤ sizeLine ∧ Q .non (upd H l (.lst (xs ++ zs)))
theorem mt_extend : MtM X "list.extend" rExtend := by
  intro pins s σ H x vs v us Q I rx rv h
  obtain ⟨l, b, xs, zs, rfl, rfl, hH, hB, hz, q⟩ := h
  cases rx
  obtain ⟨u, rfl, ru⟩ := rv.one
  cases ru
  obtain ⟨z, its, n, r, hl, e⟩ := I.lstM hH
  obtain ⟨z2, its2, n2, r2, hl2, e2⟩ := I.lstM hB
  have hsz : its.toArray.size + its2.toArray.size ≤ sizeLine := by rw [List.size_toArray, List.size_toArray]; omega
  have hlong : ¬ (!its.toArray.isEmpty && Builtin.List.listTooLong (its.toArray.size + its2.toArray.size)) = true := by
    rw [notLongL hsz, Bool.and_false]
    exact Bool.false_ne_true
  refine call_meets F.slot_list_extend ⟨_, e, rfl⟩ F.entry_list_extend (F.args_list_extend_2 _ _)
    (AutoSeq1.list_extend_list_list_0 l its.toArray n b its2.toArray n2 hlong (by rw [List.size_toArray]; omega) (by omega)) ⟨e, e2, ?_⟩
  refine ⟨.non, _, I.lset (its' := its ++ its2) hH e (by simp) (r.append r2) ?_, rfl, q⟩
  rw [List.length_append]
  omega
def rCat : R2 := fun x y H Q => ∃ l b xs zs, x = .ref l ∧ y = .ref b ∧ H l = some (.lst xs) ∧ H b = some (.lst zs) ∧ xs.length + zs.length ≤ sizeLine ∧ ∀ p, H p = none → Q (.ref p) (upd H p (.lst (xs ++ zs)))
theorem op_cat : OpR X (binaryOp .Add) rCat := by
  intro pins s σ H x y v u Q I rx ry h
  obtain ⟨l, b, xs, zs, rfl, rfl, hH, hB, hz, q⟩ := h
  cases rx
  cases ry
  obtain ⟨z, its, n, r, hl, e⟩ := I.lstM hH
  obtain ⟨z2, its2, n2, r2, hl2, e2⟩ := I.lstM hB
  refine PySem.P.add_list e e2 ?_ (by rw [List.size_toArray, List.size_toArray]; omega)
  have ea : its.toArray ++ its2.toArray = (its ++ its2).toArray := by simp
  rw [ea]
  exact ⟨.ref _, _, I.lnew (t' := s.toks) (r.append r2) (by rw [List.length_append]; omega), rfl, q _ I.fresh⟩
end
section
variable {prog : Program} {w : World} {A : Around} {E : Value → Shared → Prop} {s : Shared}
set_option maxRecDepth 100000 in
end
section
variable {X : Cx}
end
end L2
namespace L2
open PySem PySem.Spec PyProof.Rows
theorem Vals.ints : ∀ {ns : List Int} {us : List Value}, Vals (ns.map V.int) us → IntsAre us ns
  | [], us, h => by
    rw [List.map_nil] at h
    cases h
    exact IntsAre.nil
  | n :: ns, us, h => by
    rw [List.map_cons] at h
    cases h with
    | cons r t =>
      obtain ⟨k, rfl⟩ := r
      exact IntsAre.cons n k (Vals.ints t)
theorem Vals.strs : ∀ {xs : List Str} {us : List Value}, Vals (xs.map V.str) us → StrsAre us xs
  | [], us, h => by
    rw [List.map_nil] at h
    cases h
    exact StrsAre.nil
  | x :: xs, us, h => by
    rw [List.map_cons] at h
    cases h with
    | cons r t =>
      obtain ⟨k, rfl⟩ := r
      exact StrsAre.cons x k (Vals.strs t)
section
variable {prog : Program} {w : World} {A : Around} {E : Value → Shared → Prop} {s : Shared} {l : Addr} {its : List Value} {ns : List Int} {Q : Value → Shared → Prop}
end
section
variable {X : Cx}
end
section
variable {X : Cx}
def rIndex (K : PySem.W.Frag) : V → List V → Hp → VK → Prop := fun x xs H Q => ∃ (a : Addr) (ys : List V) (y : V) (j : Nat) (z : V), x = V.ref a ∧ xs = [y] ∧ SqL K H a ys ∧ flatV y = true ∧ ys.all flatV = true ∧ ys[j]? = some z ∧ eqV z y = true ∧
  (∀ (m : Nat) (z' : V), m < j → ys[m]? = some z' → eqV z' y = false) ∧ Q (.int (j : Nat)) H
theorem flat_at {ys : List V} (f : ys.all flatV = true) {j : Nat} {z : V} (h : ys[j]? = some z) : flatV z = true := List.all_eq_true.mp f z (List.mem_of_getElem? h)
theorem mt_index : MtR X "list.index" (rIndex X.K) := by
  intro pins s σ H x xs v us Q I rx rxs h
  obtain ⟨a, ys, y, j, z, rfl, rfl, hs, fy, fys, hz, hzj, hno, q⟩ := h
  cases rx
  cases rxs with
  | cons ry rt =>
    rename_i uy ut
    cases rt
    obtain ⟨its, rv, ⟨⟨cls, dd, data, sl⟩, n, ho, hc, hdn, hd⟩, hlen⟩ := I.list hs
    simp only at hc hd
    subst hc hd
    obtain ⟨u, hu, ru⟩ := rv.get hz
    obtain ⟨hjl, hje⟩ := List.getElem?_eq_some_iff.mp hu
    have hvl := rv.length
    have hj : j < its.toArray.size := by simpa using hjl
    have hsl := sizeLine_eq
    refine call_meets PySem.F.slot_list_index ⟨_, ho, rfl⟩ PySem.F.entry_list_index (PySem.F.args_list_index_2 _ _)
      (SeqAt.list_indexAt a its.toArray n dd sl uy (eqU y) j hj (by omega) ?_ ?_) ⟨ho, fun u' hu' => mem_eqAt ry fy rv fys u' (by simpa using hu'), ?_⟩
    · have e1 : its.toArray[j] = u := by simpa using hje
      rw [e1, eqU_of ru (flat_at fys hz)]
      exact hzj
    · intro m hm hmj
      have hml : m < its.length := by simpa using hm
      have hmy : m < ys.length := by omega
      have hy' : ys[m]? = some ys[m] := List.getElem?_eq_getElem hmy
      obtain ⟨u2, hu2, ru2⟩ := rv.get hy'
      obtain ⟨_, hme⟩ := List.getElem?_eq_some_iff.mp hu2
      have e1 : its.toArray[m] = u2 := by simpa using hme
      rw [e1, eqU_of ru2 (flat_at fys hy')]
      exact hno m _ hmj hy'
    · exact ⟨.int (j : Nat), H, I.tok _, ⟨_, rfl⟩, q⟩
end
section
variable {X : Cx}
end
section
variable {X : Cx}
end
mutual
inductive Dp (K : PySem.W.Frag) (H : Hp) : V → PyData → Prop
  | non : Dp K H .non .none
  | bl (b : Bool) : Dp K H (.bl b) (.bool b)
  | int (i : Int) : Dp K H (.int i) (.int i)
  | str (x : Str) : Dp K H (.str x) (.str x)
  | lst {a : Addr} {xs : List V} {ds : List PyData} : SqL K H a xs → DpAll K H xs ds → Dp K H (.ref a) (.list ds)
  | tup {a : Addr} {xs : List V} {ds : List PyData} : SqT K H a xs → DpAll K H xs ds → Dp K H (.ref a) (.tuple ds)
inductive DpAll (K : PySem.W.Frag) (H : Hp) : List V → List PyData → Prop
  | nil : DpAll K H [] []
  | cons {v : V} {vs : List V} {d : PyData} {ds : List PyData} : Dp K H v d → DpAll K H vs ds → DpAll K H (v :: vs) (d :: ds)
end
section
variable {X : Cx} {pins : List (Addr × Obj)} {σ : St} {H : Hp} {s : Shared}
mutual
theorem Dp.reads (I : Inv X pins σ H s) : ∀ (d : PyData) (v : V) (u : Value), Dp X.K H v d → RelV v u → ∃ as, Reads s.heap u d as
  | .none, _, _, h, r => by
    cases h
    cases r
    exact ⟨_, Reads.none⟩
  | .bool b, _, _, h, r => by
    cases h
    cases r
    exact ⟨_, Reads.bool b⟩
  | .int i, _, _, h, r => by
    cases h
    obtain ⟨t, rfl⟩ := r
    exact ⟨_, Reads.int i t⟩
  | .str x, _, _, h, r => by
    cases h
    obtain ⟨t, rfl⟩ := r
    exact ⟨_, Reads.str x t⟩
  | .list ds, _, _, h, r => by
    cases h with
    | lst hs ha =>
      cases r
      obtain ⟨its, rv, ⟨o, n, ho, hc, _, hd⟩, _⟩ := I.list hs
      obtain ⟨as, hr⟩ := Dp.readsAll I ds _ its ha rv
      exact ⟨_, Reads.list ho hc hd hr⟩
  | .tuple ds, _, _, h, r => by
    cases h with
    | tup hs ha =>
      cases r
      obtain ⟨its, rv, ⟨o, ho, hc, n, hd⟩, _⟩ := I.tuple hs
      obtain ⟨as, hr⟩ := Dp.readsAll I ds _ its ha rv
      exact ⟨_, Reads.tuple ho hc hd hr⟩
  | .dict _, _, _, h, _ => by cases h
theorem Dp.readsAll (I : Inv X pins σ H s) : ∀ (ds : List PyData) (vs : List V) (us : List Value), DpAll X.K H vs ds → Vals vs us → ∃ as, ReadsAll s.heap us ds as
  | [], _, _, h, r => by
    cases h
    cases r
    exact ⟨_, ReadsAll.nil⟩
  | d :: ds, _, _, h, r => by
    cases h with
    | cons h1 h2 =>
      cases r with
      | cons r1 r2 =>
        obtain ⟨as, q1⟩ := Dp.reads I d _ _ h1 r1
        obtain ⟨bs, q2⟩ := Dp.readsAll I ds _ _ h2 r2
        exact ⟨_, ReadsAll.cons q1 q2⟩
end
end
section
variable {X : Cx}
end
end L2
namespace L2
open PySem PySem.Spec PyProof.Rows
abbrev CellAt (h : Heap) (c : Addr) (v : Option Value) : Prop := h.IsCell c v
def relS (scope sc : Scope) : Scope :=
  { scope with names := scope.names.map fun (n, k) => if (k == .free && sc.kind == .function && sc.names.lookup n == some .cell) then (n, .cell) else (n, k) }
def cloFrom (cells : List (Str × Addr)) : List (Str × NameKind) → List (Str × Addr) → List (Str × Addr)
  | [], acc => acc
  | (n, k) :: r, acc => if k == .free then cloFrom cells r ((n, (cells.lookup n).getD 0) :: acc) else cloFrom cells r acc
theorem closure_loop (env : Env) (f : Str × NameKind → List (Str × Addr) → Sem (ForInStep (List (Str × Addr))))
    (hf : ∀ n k c, f (n, k) c = if k == .free then (do let a ← cellOf env n; pure (.yield ((n, a) :: c))) else pure (.yield c)) :
    ∀ (names : List (Str × NameKind)) (acc : List (Str × Addr)), (∀ y ∈ names, y.2 = .free → ∃ c, env.cells.lookup y.1 = some c) → forIn names acc f = pure (cloFrom env.cells names acc)
  | [], acc, _ => by rw [List.forIn_nil]; rfl
  | (n, k) :: r, acc, h => by
    rw [List.forIn_cons, hf]
    have ih := fun acc => closure_loop env f hf r acc fun y hy => h y (List.mem_cons_of_mem _ hy)
    unfold cloFrom
    by_cases hk : (k == NameKind.free) = true
    · rw [if_pos hk, if_pos hk]
      obtain ⟨c, hc⟩ := h (n, k) List.mem_cons_self (by simpa using hk)
      have e : cellOf env n = pure c := by unfold cellOf; rw [hc]
      rw [e]
      have e2 : (env.cells.lookup n).getD 0 = c := by rw [hc]; rfl
      rw [e2]
      exact ih _
    · rw [if_neg hk, if_neg hk]
      exact ih _
theorem closure_ok {scope : Scope} {env : Env} (h : ∀ y ∈ scope.names, y.2 = .free → ∃ c, env.cells.lookup y.1 = some c) : closureFor scope env = pure (cloFrom env.cells scope.names []) := by
  simp only [closureFor]
  rw [closure_loop env _ (fun n k c => rfl) scope.names [] h]
  rfl
theorem mem_lookup {α : Type} : ∀ {l : List (Str × α)} {n : Str} {c : α}, (n, c) ∈ l → ∃ c', l.lookup n = some c'
  | (k, v) :: r, n, c, h => by
    rw [List.lookup_cons]
    cases hb : n == k with
    | true => exact ⟨_, rfl⟩
    | false =>
      rcases List.mem_cons.mp h with e | h
      · cases e; simp at hb
      · exact mem_lookup h
theorem cloFrom_mem {cells : List (Str × Addr)} : ∀ {names : List (Str × NameKind)} {acc : List (Str × Addr)} {n : Str} {c : Addr}, (n, c) ∈ cloFrom cells names acc → (n, c) ∈ acc ∨ ((n, .free) ∈ names ∧ c = (cells.lookup n).getD 0)
  | [], _, _, _, h => .inl h
  | (m, k) :: r, acc, n, c, h => by
    unfold cloFrom at h
    split at h
    · rename_i hk
      have hk : k = .free := by simpa using hk
      rcases cloFrom_mem h with h | ⟨h1, h2⟩
      · rcases List.mem_cons.mp h with e | h
        · cases e; exact .inr ⟨hk ▸ List.mem_cons_self, rfl⟩
        · exact .inl h
      · exact .inr ⟨List.mem_cons_of_mem _ h1, h2⟩
    · rcases cloFrom_mem h with h | ⟨h1, h2⟩
      · exact .inl h
      · exact .inr ⟨List.mem_cons_of_mem _ h1, h2⟩
theorem cloFrom_acc {cells : List (Str × Addr)} : ∀ {names : List (Str × NameKind)} {acc : List (Str × Addr)} {p : Str × Addr}, p ∈ acc → p ∈ cloFrom cells names acc
  | [], _, _, h => h
  | (m, k) :: r, acc, p, h => by
    unfold cloFrom
    split
    · exact cloFrom_acc (List.mem_cons_of_mem _ h)
    · exact cloFrom_acc h
theorem cloFrom_has {cells : List (Str × Addr)} : ∀ {names : List (Str × NameKind)} {acc : List (Str × Addr)} {n : Str}, (n, .free) ∈ names → (n, (cells.lookup n).getD 0) ∈ cloFrom cells names acc
  | (m, k) :: r, acc, n, h => by
    unfold cloFrom
    rcases List.mem_cons.mp h with e | h
    · cases e
      exact cloFrom_acc List.mem_cons_self
    · split
      · exact cloFrom_has h
      · exact cloFrom_has h
theorem cells_mem : ∀ {names : List (Str × NameKind)} {h : Heap} {acc : List (Str × Addr)} {x : Str} {c : Addr}, (x, c) ∈ cellsFrom h.objs.size names acc →
    (x, c) ∈ acc ∨ ((x, .cell) ∈ names ∧ h.objs.size ≤ c ∧ CellAt (pushCells h names) c none)
  | [], _, _, _, _, h => .inl h
  | (n, k) :: r, h, acc, x, c, hm => by
    unfold cellsFrom at hm
    unfold pushCells
    split at hm
    · rename_i hk
      rw [if_pos hk]
      have hk : k = .cell := by simpa using hk
      rw [← Heap.size_push h { cls := .type "cell", data := .cell none }] at hm
      rcases cells_mem hm with hm | ⟨h1, h2, h3⟩
      · rcases List.mem_cons.mp hm with e | hm
        · cases e
          exact .inr ⟨hk ▸ List.mem_cons_self, Nat.le_refl _, _, pushCells_keeps r _ _ _ (Heap.get?_push_size _ rfl), rfl⟩
        · exact .inl hm
      · rw [Heap.size_push] at h2
        exact .inr ⟨List.mem_cons_of_mem _ h1, Nat.le_of_succ_le h2, h3⟩
    · rename_i hk
      rw [if_neg hk]
      rcases cells_mem hm with hm | ⟨h1, h2, h3⟩
      · exact .inl hm
      · exact .inr ⟨List.mem_cons_of_mem _ h1, h2, h3⟩
theorem cells_acc : ∀ {names : List (Str × NameKind)} {n : Nat} {acc : List (Str × Addr)} {p : Str × Addr}, p ∈ acc → p ∈ cellsFrom n names acc
  | [], _, _, _, h => h
  | (m, k) :: r, n, acc, p, h => by
    unfold cellsFrom
    split
    · exact cells_acc (List.mem_cons_of_mem _ h)
    · exact cells_acc h
theorem cells_has : ∀ {names : List (Str × NameKind)} {n : Nat} {acc : List (Str × Addr)} {x : Str}, (x, .cell) ∈ names → ∃ c, (x, c) ∈ cellsFrom n names acc
  | (m, k) :: r, n, acc, x, h => by
    unfold cellsFrom
    rcases List.mem_cons.mp h with e | h
    · cases e
      exact ⟨n, cells_acc List.mem_cons_self⟩
    · split
      · exact cells_has h
      · exact cells_has h
theorem cells_inj : ∀ {names : List (Str × NameKind)} {h : Heap} {acc : List (Str × Addr)} {x y : Str} {c : Addr}, (∀ p ∈ acc, p.2 < h.objs.size) → (∀ x y c, (x, c) ∈ acc → (y, c) ∈ acc → x = y) →
    (x, c) ∈ cellsFrom h.objs.size names acc → (y, c) ∈ cellsFrom h.objs.size names acc → x = y
  | [], _, _, _, _, _, _, hi, h1, h2 => hi _ _ _ h1 h2
  | (n, k) :: r, h, acc, x, y, c, hl, hi, h1, h2 => by
    unfold cellsFrom at h1 h2
    split at h1
    · rename_i hk
      rw [if_pos hk] at h2
      rw [← Heap.size_push h { cls := .type "cell", data := .cell none }] at h1 h2
      refine cells_inj (h := h.push _) (fun p hp => ?_) (fun x y c a b => ?_) h1 h2
      · rw [Heap.size_push]
        rcases List.mem_cons.mp hp with rfl | hp
        · exact Nat.lt_succ_self _
        · exact Nat.lt_succ_of_lt (hl p hp)
      · rcases List.mem_cons.mp a with e | a <;> rcases List.mem_cons.mp b with e' | b
        · cases e; cases e'; rfl
        · cases e; exact absurd (hl _ b) (Nat.lt_irrefl _)
        · cases e'; exact absurd (hl _ a) (Nat.lt_irrefl _)
        · exact hi _ _ _ a b
    · rename_i hk
      rw [if_neg hk] at h2
      exact cells_inj hl hi h1 h2
theorem newEnv_comp {M : Model} {A : Around} {E : Value → Shared → Prop} {s : Shared} {scope : Scope} {globals : Addr} {closure : List (Str × Addr)} {qual : Str} {func : Option Addr} {code : Value} {around : Env} {builtins : Addr} {Q : Env → Shared → Prop}
    (h : Q (newEnv scope s.heap.objs.size globals (cellsFrom (s.heap.objs.size + 1) scope.names closure) qual func code (some around) builtins)
      { s with heap := pushCells (s.heap.push { cls := .type "dict", data := .dict #[] }) scope.names }) :
    wpAny M A (newFunctionEnv scope globals closure [] qual func code (some around) builtins) Q E s := by
  simp only [newFunctionEnv, Option.isSome_some, if_true]
  refine wpAny_bind (wpAny_alloc ?_)
  refine wpAny_bind (wpAny_layCells _ (fun n k c => rfl) scope.names closure _ _ ?_)
  rw [show ({ s with heap := s.heap.push { cls := .type "dict", data := .dict #[] } } : Shared).heap.objs.size = s.heap.objs.size + 1 from Heap.size_push ..]
  rw [List.forIn_nil]
  exact wpAny_bind (wpAny_pure (wpAny_pure h))
/-- every name of the written scope, in the scope that runs -/
theorem lookup_relS {sc : Scope} : ∀ {names : List (Str × NameKind)} {x : Str} {k : NameKind},
    (names.map fun (n, k) => if (k == NameKind.free && sc.kind == .function && sc.names.lookup n == some .cell) then (n, NameKind.cell) else (n, k)).lookup x = some k →
    ∃ k', names.lookup x = some k' ∧ (k = k' ∨ (k' = .free ∧ k = .cell))
  | [], _, _, h => by simp at h
  | (n, k₀) :: r, x, k, h => by
    have ih := @lookup_relS sc r x k
    have h' : List.lookup x ((if (k₀ == NameKind.free && sc.kind == .function && sc.names.lookup n == some .cell) = true then (n, NameKind.cell) else (n, k₀)) :: (r.map _)) = some k := h
    cases hx : x == n with
    | true =>
      simp only [List.lookup_cons, hx]
      by_cases hc : (k₀ == NameKind.free && sc.kind == .function && sc.names.lookup n == some .cell) = true
      · rw [if_pos hc] at h'
        simp only [List.lookup_cons, hx] at h'
        cases h'
        simp only [Bool.and_eq_true, beq_iff_eq] at hc
        exact ⟨k₀, rfl, .inr ⟨hc.1.1, rfl⟩⟩
      · rw [if_neg hc] at h'
        simp only [List.lookup_cons, hx] at h'
        cases h'
        exact ⟨_, rfl, .inl rfl⟩
    | false =>
      simp only [List.lookup_cons, hx]
      by_cases hc : (k₀ == NameKind.free && sc.kind == .function && sc.names.lookup n == some .cell) = true
      · rw [if_pos hc] at h'
        simp only [List.lookup_cons, hx] at h'
        exact ih h'
      · rw [if_neg hc] at h'
        simp only [List.lookup_cons, hx] at h'
        exact ih h'
/-- the names of a comprehension's block: its own (with their places in N), or captured -/
structure BlkOk (N : List Str) (sc scope : Scope) (own : List (Str × Nat)) : Prop where
  kind : scope.kind = .function
  uniq : ∀ y ∈ scope.names, scope.names.lookup y.1 = some y.2
  ix : ∀ p ∈ own, N[p.2]? = some p.1
  free : ∀ y ∈ scope.names, y.2 = .free → sc.names.lookup y.1 = some .cell ∨ sc.names.lookup y.1 = some .free
  own : ∀ y ∈ scope.names, y.2 = .local ∨ y.2 = .cell → y.1 ∈ own.map (·.1) ∨ y.1 ∉ N
/-- the slots of the block's own names forgotten -/
def wipe (σ : St) : List Nat → St
  | [] => σ
  | v :: vs => (wipe σ vs).set v none
theorem wipe_length (σ : St) : ∀ vs : List Nat, (wipe σ vs).length = σ.length
  | [] => rfl
  | v :: vs => by unfold wipe; rw [List.length_set, wipe_length σ vs]
theorem wipe_some {σ : St} {i : Nat} {x : V} : ∀ {vs : List Nat}, (wipe σ vs)[i]? = some (some x) → σ[i]? = some (some x) ∧ i ∉ vs
  | [], h => ⟨h, by simp⟩
  | v :: vs, h => by
    unfold wipe at h
    by_cases hi : v = i
    · subst hi
      by_cases hv : v < (wipe σ vs).length
      · rw [List.getElem?_set_self hv] at h; cases h
      · rw [List.getElem?_eq_none (by simpa using hv)] at h; cases h
    · rw [List.getElem?_set_ne hi] at h
      obtain ⟨h1, h2⟩ := wipe_some h
      exact ⟨h1, by simp only [List.mem_cons, not_or]; exact ⟨fun e => hi e.symm, h2⟩⟩
/-- the context of a block that starts at s, its iterator's objects at fp -/
abbrev Cx.blk (X : Cx) (s : Shared) (H : Hp) (scope : Scope) (cenv : Env) (fp : List Addr) : Cx := { X with s_0 := s, H_0 := H, env := cenv, outer := X.stack, ex := fp, fn := fun x => scope.names.lookup x == some .cell, pn := [], xe := fun _ _ => False }
section
variable {X : Cx} {pins : List (Addr × Obj)} {σ : St} {H : Hp} {s : Shared}
theorem block_start {scope : Scope} {own : List (Str × Nat)} {fp : List Addr} (I : Inv X pins σ H s) (ok : BlkOk X.N X.env.scope scope own) (hN : X.N.Nodup) (hfp : ∀ b ∈ fp, FpOk X pins H b ∧ b < s.heap.objs.size) :
    Inv (X.blk s H scope (compEnvC scope (cellsFrom (s.heap.objs.size + 1) scope.names (cloFrom X.env.cells scope.names [])) s.heap.objs.size X.env) fp) [] (wipe σ (own.map (·.2))) H { s with heap := pushCells (s.heap.push { cls := .type "dict", data := .dict #[] }) scope.names } := by
  have hfree : ∀ y ∈ scope.names, y.2 = .free → ∃ c, X.env.cells.lookup y.1 = some c := fun y hy e => by
    rcases ok.free y hy e with k | k
    · exact I.ok.has _ (.inl k)
    · exact I.ok.has _ (.inr k)
  generalize hcenv : compEnvC scope (cellsFrom (s.heap.objs.size + 1) scope.names (cloFrom X.env.cells scope.names [])) s.heap.objs.size X.env = cenv
  have kp : ∀ b o, s.heap.get? b = some o → (pushCells (s.heap.push { cls := .type "dict", data := .dict #[] }) scope.names).get? b = some o := fun b o e => pushCells_keeps _ _ _ _ (Heap.get?_push_of_some _ e)
  have hL : cenv.locals = s.heap.objs.size := by rw [← hcenv]; rfl
  have hcl : cenv.cells = cellsFrom (s.heap.objs.size + 1) scope.names (cloFrom X.env.cells scope.names []) := by rw [← hcenv]; rfl
  have hsc : cenv.scope = relS scope X.env.scope := by rw [← hcenv]; rfl
  rw [← Heap.size_push s.heap { cls := .type "dict", data := .dict #[] }] at hcl
  have cm : ∀ {y c}, (y, c) ∈ cloFrom X.env.cells scope.names [] → X.env.cells.lookup y = some c ∧ c < s.heap.objs.size := fun {y c} hm => by
    rcases cloFrom_mem hm with hm | ⟨h1, rfl⟩
    · cases hm
    · obtain ⟨c, hc⟩ := hfree _ h1 rfl
      rw [hc]
      obtain ⟨w, z⟩ := I.cell _ _ hc
      exact ⟨rfl, z.lt⟩
  have mem : ∀ {y c}, cenv.cells.lookup y = some c → (X.env.cells.lookup y = some c ∧ c < s.heap.objs.size) ∨ (s.heap.objs.size + 1 ≤ c ∧ CellAt (pushCells (s.heap.push { cls := .type "dict", data := .dict #[] }) scope.names) c none) := fun {y c} e => by
    rw [hcl] at e
    rcases cells_mem (PySem.mem_of_lookup e) with hm | ⟨_, h2, h3⟩
    · exact .inl (cm hm)
    · rw [Heap.size_push] at h2; exact .inr ⟨h2, h3⟩
  have look : ∀ {y}, scope.names.lookup y = some .free → ∃ c, cenv.cells.lookup y = some c ∧ X.env.cells.lookup y = some c := fun {y} hl => by
    have hy : (y, NameKind.free) ∈ scope.names := PySem.mem_of_lookup hl
    obtain ⟨c', e'⟩ := mem_lookup (cells_acc (names := scope.names) (n := (s.heap.push { cls := .type "dict", data := .dict #[] }).objs.size) (cloFrom_has (cells := X.env.cells) (acc := []) hy))
    rw [← hcl] at e'
    refine ⟨c', e', ?_⟩
    rw [hcl] at e'
    rcases cells_mem (PySem.mem_of_lookup e') with hm | ⟨h1, _, _⟩
    · exact (cm hm).1
    · have := ok.uniq _ h1
      rw [hl] at this; cases this
  have okB : (X.blk s H scope cenv fp).Ok := by
    refine ⟨I.ok.mod, by show cenv.scope.kind = _; rw [hsc]; exact ok.kind, by show cenv.globals = _; rw [← hcenv]; exact I.ok.glob, by show cenv.builtins = _; rw [← hcenv]; exact I.ok.blt, by show s.heap.objs.size ≤ cenv.locals; rw [hL]; exact Nat.le_refl _,
      fun y z c e1 e2 => ?_, fun y hy => ?_, fun y c z e => ?_, I.ok.hd, I.ok.frames, .inl rfl, fun b hb => ⟨?_, fun y c e z => ?_⟩, I.bs, Nat.le_trans I.ok.bsz I.sz, fun b o e hb => ?_, fun b hb z => ?_, I.stack, I.stkFree⟩
    · have e1 : cenv.cells.lookup y = some c := e1
      have e2 : cenv.cells.lookup z = some c := e2
      rw [hcl] at e1 e2
      refine cells_inj (fun p hp => ?_) (fun y z c a b => I.ok.inj y z c (cm a).1 (cm b).1) (PySem.mem_of_lookup e1) (PySem.mem_of_lookup e2)
      rw [Heap.size_push]
      exact Nat.lt_succ_of_lt (cm (y := p.1) (c := p.2) hp).2
    · show ∃ c, cenv.cells.lookup y = some c
      have key : ∀ k, cenv.kindOf y = some k → (k = .cell ∨ k = .free) → ∃ c, cenv.cells.lookup y = some c := fun k hk hk' => by
        unfold Env.kindOf at hk
        rw [hsc] at hk
        obtain ⟨k', e, r⟩ := lookup_relS hk
        have : k' = .cell ∨ k' = .free := by
          rcases r with rfl | ⟨rfl, _⟩
          · exact hk'
          · exact .inr rfl
        rcases this with rfl | rfl
        · obtain ⟨c, hm⟩ := cells_has (n := (s.heap.push { cls := .type "dict", data := .dict #[] }).objs.size) (acc := cloFrom X.env.cells scope.names []) (PySem.mem_of_lookup e)
          obtain ⟨c', e'⟩ := mem_lookup hm
          exact ⟨c', by rw [hcl]; exact e'⟩
        · obtain ⟨c, h1, _⟩ := look e
          exact ⟨c, h1⟩
      rcases hy with hy | hy
      · exact key _ hy (.inl rfl)
      · exact key _ hy (.inr rfl)
    · have z : (scope.names.lookup y == some NameKind.cell) = true := z
      have z : scope.names.lookup y = some .cell := by simpa using z
      have e : cenv.cells.lookup y = some c := e
      rw [hcl] at e
      rcases cells_mem (PySem.mem_of_lookup e) with hm | ⟨_, h2, _⟩
      · rcases cloFrom_mem hm with hm | ⟨h1, _⟩
        · cases hm
        · have q := ok.uniq _ h1
          rw [z] at q; cases q
      · rw [Heap.size_push] at h2
        exact Nat.le_of_succ_le h2
    · show b ≠ cenv.locals
      rw [hL]; exact Nat.ne_of_lt (hfp b hb).2
    · have e : cenv.cells.lookup y = some c := e
      rcases mem e with ⟨h1, _⟩ | ⟨h1, _⟩
      · exact (hfp b hb).1.2.2.2.2.1 y c h1 z
      · have h2 : s.heap.objs.size + 1 ≤ b := by rw [← z]; exact h1
        exact absurd (Nat.lt_of_lt_of_le (hfp b hb).2 (Nat.le_of_succ_le h2)) (Nat.lt_irrefl _)
    · rcases (hfp b hb).1.2.2.2.1 with z | z
      · exact I.ok.noex b o e z
      · exact absurd (Nat.lt_of_lt_of_le (Heap.lt_size e) (Nat.le_trans I.ok.bsz z)) (Nat.lt_irrefl _)
    · rcases List.mem_cons.mp (I.stkSub b z) with z | z
      · exact (hfp b hb).1.2.1 z
      · exact (hfp b hb).1.2.2.1 z
  refine ⟨okB, rfl, I.bare, Un.kept kp, ⟨fun _ => none, ?_, fun i y av e1 e2 e3 => ?_⟩, fun y c e => ?_, ?_, fun y c e => ?_, fun p hp => ?_, I.hok.kept kp, by rw [wipe_length]; exact I.len⟩
  · show Heap.Ns _ cenv.locals _
    rw [hL]
    exact Heap.Ns.keeps (Heap.Ns.new ..) fun b o e => pushCells_keeps _ _ _ _ e
  · obtain ⟨e2, hne⟩ := wipe_some e2
    have hfr : scope.names.lookup y = some .free ∧ (cenv.kindOf y = some .cell ∨ cenv.kindOf y = some .free) := by
      have key : ∀ k, cenv.scope.names.lookup y = some k → k = .local ∨ k = .cell ∨ k = .free → scope.names.lookup y = some .free ∧ (cenv.kindOf y = some .cell ∨ cenv.kindOf y = some .free) := fun k hk hk' => by
        have hk0 := hk
        rw [hsc] at hk
        obtain ⟨k', e, r⟩ := lookup_relS hk
        have no : ¬ (k' = .local ∨ k' = .cell) := fun hh => by
          rcases ok.own _ (PySem.mem_of_lookup e) hh with e' | e'
          · obtain ⟨p, hp, hpy⟩ := List.mem_map.mp e'
            have e3 := ok.ix p hp
            have : p.1 = y := hpy
            rw [this] at e3
            exact hne (List.mem_map.mpr ⟨p, hp, nodup_ix hN e3 e1⟩)
          · exact e' (List.mem_of_getElem? e1)
        rcases r with rfl | ⟨rfl, rfl⟩
        · rcases hk' with rfl | rfl | rfl
          · exact absurd (.inl rfl) no
          · exact absurd (.inr rfl) no
          · exact ⟨e, .inr hk0⟩
        · exact ⟨e, .inl hk0⟩
      have e3 : Vis cenv.scope y := e3
      rcases e3 with e3 | e3 | e3
      · exact key _ e3 (.inl rfl)
      · exact key _ e3 (.inr (.inl rfl))
      · exact key _ e3 (.inr (.inr rfl))
    obtain ⟨m, hn, hl⟩ := I.loc
    have hvis : Vis X.env.scope y := (ok.free _ (PySem.mem_of_lookup hfr.1) rfl).elim (fun k => .inr (.inl k)) (fun k => .inr (.inr k))
    obtain ⟨w, r, q⟩ := hl i y av e1 e2 hvis
    refine ⟨w, r, .inr ⟨hfr.2, ?_⟩⟩
    obtain ⟨c, h1, h2⟩ := look hfr.1
    rcases q with ⟨k, _⟩ | ⟨_, c', e', z⟩
    · have k : X.env.scope.names.lookup y = some .local := k
      rcases ok.free _ (PySem.mem_of_lookup hfr.1) rfl with k' | k' <;> rw [show X.env.scope.names.lookup y = _ from k'] at k <;> cases k
    · rw [h2] at e'; cases e'
      exact ⟨c, h1, z.keeps kp⟩
  · have e : cenv.cells.lookup y = some c := e
    rcases mem e with ⟨h1, _⟩ | ⟨_, z⟩
    · obtain ⟨w, z⟩ := I.cell y c h1
      exact ⟨w, z.keeps kp⟩
    · exact ⟨_, z⟩
  · show H cenv.locals = none
    rw [hL]; exact I.hok.fresh (Nat.le_refl _)
  · have e : cenv.cells.lookup y = some c := e
    rcases mem e with ⟨h1, _⟩ | ⟨h1, _⟩
    · exact I.freeC y c h1
    · exact I.hok.fresh (Nat.le_of_succ_le h1)
  · exact absurd (show p ∈ ([] : List (Addr × Obj)) ++ [] from hp) (by simp)
/-- an item appended to a tracked list -/
theorem app_ok {E : Value → Shared → Prop} {D : Addr} {xs : List V} {y : V} {v : Value} {Q : Value → Shared → Prop} (I : Inv X pins σ H s) (hD : H D = some (.lst xs)) (hz : xs.length < sizeLine) (r : RelV y v)
    (h : ∀ s', Inv X pins σ (upd H D (.lst (xs ++ [y]))) s' → Q .none s') : wpAny (model X.prog X.w) X.A (call (.builtin "list.append") [.ref D, v]) Q E s := by
  obtain ⟨hz', its, n, ri, e⟩ := I.hok D _ hD
  have hl := ri.length
  refine append_at (hsz := by rw [List.size_toArray]; omega) e fun h' sb ho' => ?_
  refine h { s with heap := h' } (I.write (t' := s.toks) (by rw [hD]; trivial) (.inl rfl) (fun b u hb q => (sb.2 b hb).trans q) ⟨_, ho'⟩ ⟨by rw [List.length_append]; exact hz, its ++ [v], n + 1, ri.append (.cons r .nil), ?_⟩)
  rw [ho']
  simp
/-- a clause's tests -/
def PTs (X : Cx) (ifs : List Expr) (t : TT) : Prop :=
  ∀ (pins : List (Addr × Obj)) (s : Shared) (σ : St) (H : Hp) (Q : Bool → Hp → Prop), Inv X pins σ H s → t σ H Q →
    wpAny (model X.prog X.w) X.A (forIn ifs true fun c r => if r = true then do let ok ← isTrue c X.env (eval c X.env); pure (ForInStep.yield ok) else pure (ForInStep.yield r)) (TP X pins σ Q) X.xe s
def tYes : TT := fun _ H Q => Q true H
theorem pts_nil : PTs X [] tYes := fun _ _ _ H _ I h => wpAny_tests_nil ⟨H, I, h⟩
theorem pts_one {c : Expr} {t : TT} (h : PT X c t) : PTs X [c] t := fun pins s σ H Q I hw => wpAny_tests_one (h pins s σ H Q I hw)
end
theorem thnF {α : Type} {t : Sem α} {Q Q' : α → Shared → Prop} {M : Model} {A : Around} {E : Value → Shared → Prop} {s : Shared} (h : wpAny M A t Q (fun _ _ => False) s) (hQ : ∀ a s, Q a s → Q' a s) : wpAny M A t Q' E s := wpAny_mono h hQ fun _ _ z => False.elim z
/-- the loop of a list comprehension's block, the target of any form (codeAny_compLoop_tests asks a target that no tuple goes to; statement and proof follow it, PyProof/CompMap.lean:41-61, with the step letOwnedTupleGo kept) -/
theorem compLoop_any {prog : Program} {w : World} {A : Around} {R : Result → Shared → Prop} {s : Shared} {elt target iter : Expr} {ifs : List Expr} {scope : Scope} {pos : Pos} {it acc : Value} {env : Env} (I : Nat → Shared → Prop)
    (turn : ∀ n s, I n s → wpAny (model prog w) A (pyNext it) (fun r s₁ => match r with
      | none => R (.ok .next) s₁
      | some v => wpAny (model prog w) A (letOwnedTupleGo target it v) (fun _ s₁' => wpAny (model prog w) A (assign target env v) (fun _ s₂ =>
          wpAny (model prog w) A (forIn ifs true fun c r => if r = true then do let ok ← isTrue c env (eval c env); pure (ForInStep.yield ok) else pure (ForInStep.yield r)) (fun ok s₃ =>
            if ok = true then wpAny (model prog w) A (eval elt env) (fun x s₄ =>
              wpAny (model prog w) A (call (.builtin "list.append") [acc, x]) (fun _ s₅ => ∃ m, m < n ∧ I m s₅) (notedBy (model prog w) A env fun e s' => R (.error e) s') s₄) (notedBy (model prog w) A env fun e s' => R (.error e) s') s₃
            else ∃ m, m < n ∧ I m s₃) (notedBy (model prog w) A env fun e s' => R (.error e) s') s₂) (notedBy (model prog w) A env fun e s' => R (.error e) s') s₁') (notedBy (model prog w) A env fun e s' => R (.error e) s') s₁) (notedBy (model prog w) A env fun e s' => R (.error e) s') s)
    (n : Nat) (h : I n s) :
    codeAny (model prog w) A (.compLoop (.ListComp elt [⟨target, iter, ifs, 0⟩] scope pos) 0 it acc env) R s := by
  refine codeAny_loop rfl I (fun n s hI => ?_) n h
  show wpAny _ A ((compTurn (.ListComp elt [⟨target, iter, ifs, 0⟩] scope pos) 0 it acc env).onRaise (fun x => do noteFrame x env; theTreesLotGoes x)) _ _ s
  refine wpAny_noted ?_
  rw [compTurn_list]
  refine wpAny_bind (wpAny_standAt (wpAny_bind (wpAny_mono (turn n s hI) (fun r s₁ h₁ => ?_) fun _ _ h' => h')))
  cases r with
  | none => exact wpAny_pure h₁
  | some v =>
    refine wpAny_bind (wpAny_mono h₁ (fun _ s₁' h₁' => ?_) fun _ _ h' => h')
    refine wpAny_bind (wpAny_mono h₁' (fun _ s₂ h₂ => wpAny_bind (wpAny_mono h₂ (fun ok s₃ h₃ => ?_) fun _ _ h' => h')) fun _ _ h' => h')
    cases ok with
    | false => exact wpAny_pure ⟨rfl, h₃⟩
    | true =>
      exact wpAny_bind (wpAny_bind (wpAny_mono h₃ (fun x s₄ h₄ => wpAny_bind (wpAny_mono h₄ (fun _ s₅ h₅ => wpAny_pure (wpAny_pure ⟨rfl, h₅⟩)) fun _ _ h' => h')) fun _ _ h' => h'))
section
variable {X : Cx}
/-- [elt for target in iter if ..]: D the new list; W by the turn and a measure, Nx what a turn is to reach -/
def tLc (wi : TI) (g : TG) (tt : TT) (te : TE) (vs : List Nat) : TE := fun σ H Q => wi σ H fun J H1 => ∀ D, H1 D = none → ∃ W : Nat → Nat → Hp → Prop, (∃ m, W 0 m (upd H1 D (.lst []))) ∧ ∀ i m H, W i m H →
  (J.stop i H ∧ Q (.ref D) H) ∨ (J.go i H ∧ ∃ Nx : Hp → Prop, (∀ H', Nx H' → ∃ m', m' < m ∧ W (i + 1) m' H') ∧ ∀ x H', J.yld i H x H' → g x (wipe σ vs) H' fun σ2 H2 => wipe σ2 vs = wipe σ vs ∧ tt σ2 H2 fun b H3 =>
    if b = true then te σ2 H3 fun y H4 => ∃ acc, H4 D = some (.lst acc) ∧ acc.length < sizeLine ∧ Nx (upd H4 D (.lst (acc ++ [y]))) else Nx H3)
theorem lc_core {pins : List (Addr × Obj)} {s : Shared} {σ : St} {H : Hp} {Q : VK} {elt tg iter : Expr} {ifs : List Expr} {scope : Scope} {own : List (Str × Nat)} {pos pos' : Pos} {wi : TI} {g : TG} {tt : TT} {te : TE} {use : Option (Value → Sem Unit)} {Qf : Value → Shared → Prop}
    (hc : X.calm = true) (hN : X.N.Nodup) (I : Inv X pins σ H s) (hi : PI X tg iter wi) (ok : BlkOk X.N X.env.scope scope own)
    (hg : ∀ (s : Shared) (H : Hp) (C : Addr) (cl : List (Str × Addr)) (fp : List Addr), PG (X.blk s H scope (compEnvC scope cl C X.env) fp) tg g) (ht : ∀ (s : Shared) (H : Hp) (C : Addr) (cl : List (Str × Addr)) (fp : List Addr), PTs (X.blk s H scope (compEnvC scope cl C X.env) fp) ifs tt)
    (he : ∀ (s : Shared) (H : Hp) (C : Addr) (cl : List (Str × Addr)) (fp : List Addr), PE (X.blk s H scope (compEnvC scope cl C X.env) fp) elt te) (hs : ∀ x, foldedSetIterable iter X.env x = pure x)
    (h : tLc wi g tt te (own.map (·.2)) σ H Q)
    (hRR : ∀ D C s' m H', Inv X pins σ H' s' → Q (.ref D) H' → s'.heap.Ns C m → FpOk X pins H' C → compPost (model X.prog X.w) X.A X.xe use Qf (.ref D) C (.ok .next) s') :
    wpAny (model X.prog X.w) X.A (comprehension (.ListComp elt [⟨tg, iter, ifs, 0⟩] scope pos) scope X.env pos' (newList []) false (eval iter X.env) use) Qf X.xe s := by
  have hfree : ∀ y ∈ scope.names, y.2 = .free → ∃ c, X.env.cells.lookup y.1 = some c := fun y hy e => by
    rcases ok.free y hy e with k | k
    · exact I.ok.has _ (.inl k)
    · exact I.ok.has _ (.inr k)
  refine wpAny_comprehension_free (use := use) rfl hs (closure_ok hfree) ok.kind (fun y hy e => by rw [ok.uniq y hy, e])
    (thn (hi pins s σ H _ I h) fun xv s1 hx => thn hx fun itv s2 h2 => ?_)
  obtain ⟨it, fp, tn, J, H2, e, I2, T, st2, f2, q⟩ := h2
  subst e
  refine wpAny_newObj_type (newEnv_comp ?_) (by show 0 ≤ sizeLine; decide)
  generalize hD : s2.heap.objs.size = D
  have hDn : H2 D = none := I2.hok.fresh (Nat.le_of_eq hD)
  obtain ⟨W, ⟨m0, w0⟩, turn⟩ := q D hDn
  -- the new list
  generalize hs3 : ({ s2 with heap := s2.heap.push { cls := .type "list", data := .seq ([] : List Value).toArray } } : Shared) = s3
  have I3 : Inv X pins σ (upd H2 D (.lst [])) s3 := by
    rw [← hs3]
    refine I2.laid (t' := s2.toks) (fun b o e => Heap.get?_push_of_some _ e) (Nat.le_of_eq hD) ⟨Nat.zero_le _, [], 0, .nil, ?_⟩
    rw [← hD]
    exact Heap.get?_push_size _ rfl
  have h3 : s3.heap = s2.heap.push { cls := .type "list", data := .seq ([] : List Value).toArray } := by rw [← hs3]
  have sz : ∀ b ∈ fp, b < s2.heap.objs.size := fun b hb => by
    obtain ⟨o, e, _⟩ := T.obj _ _ st2 b hb
    exact Heap.lt_size e
  have f3 : ∀ b ∈ fp, FpOk X pins (upd H2 D (.lst [])) b ∧ b < s3.heap.objs.size := fun b hb => by
    have hlt := sz b hb
    refine ⟨⟨?_, (f2 b hb).2⟩, by rw [h3, Heap.size_push]; exact Nat.lt_succ_of_lt hlt⟩
    rw [upd_ne (by rw [← hD]; exact Nat.ne_of_lt hlt)]
    exact (f2 b hb).1
  have st3 : tn 0 s3.heap := T.keep _ _ _ st2 fun b _ o e => by rw [h3]; exact Heap.get?_push_of_some _ e
  have I4 := block_start I3 ok hN f3
  have pg := hg s3 (upd H2 D (.lst [])) s3.heap.objs.size (cellsFrom (s3.heap.objs.size + 1) scope.names (cloFrom X.env.cells scope.names [])) fp
  have pt := ht s3 (upd H2 D (.lst [])) s3.heap.objs.size (cellsFrom (s3.heap.objs.size + 1) scope.names (cloFrom X.env.cells scope.names [])) fp
  have pe := he s3 (upd H2 D (.lst [])) s3.heap.objs.size (cellsFrom (s3.heap.objs.size + 1) scope.names (cloFrom X.env.cells scope.names [])) fp
  show codeAny _ _ (.compStart (.ListComp elt [⟨tg, iter, ifs, 0⟩] scope pos) 0 (.ref it) (.ref D) (compEnvC scope (cellsFrom (s3.heap.objs.size + 1) scope.names (cloFrom X.env.cells scope.names [])) s3.heap.objs.size X.env)) (compPost (model X.prog X.w) X.A X.xe use Qf (.ref D) s3.heap.objs.size) { s3 with heap := pushCells (s3.heap.push { cls := .type "dict", data := .dict #[] }) scope.names }
  have nfp : ∀ b ∈ fp, (upd H2 D (.lst [])) b = none := fun b hb => (f3 b hb).1.1
  generalize hce : compEnvC scope (cellsFrom (s3.heap.objs.size + 1) scope.names (cloFrom X.env.cells scope.names [])) s3.heap.objs.size X.env = ce at I4 pg pt pe ⊢
  have cL : ce.locals = s3.heap.objs.size := by subst hce; rfl
  generalize hH3 : upd H2 D (.lst []) = H3 at I3 I4 pg pt pe w0 nfp f3
  generalize hs4 : ({ s3 with heap := pushCells (s3.heap.push { cls := .type "dict", data := .dict #[] }) scope.names } : Shared) = s4 at I4 ⊢
  have st4 : tn 0 s4.heap := T.keep _ _ _ st3 fun b _ o e => by rw [← hs4]; exact pushCells_keeps _ _ _ _ (Heap.get?_push_of_some _ e)
  have stat : ∀ {σ' : St} {H' : Hp} {s' : Shared}, Inv (X.blk s3 H3 scope ce fp) [] σ' H' s' → (∀ b ∈ fp, H' b = none) → ∀ b ∈ fp, FpOk (X.blk s3 H3 scope ce fp) [] H' b := fun {σ' H' s'} I' hn b hb =>
    ⟨hn b hb, (I'.ok.exf b hb).1, I'.ok.exfs b hb, .inl hb, fun x c e => (I'.ok.exf b hb).2 x c e, fun p hp => absurd (show p ∈ ([] : List (Addr × Obj)) ++ [] from hp) (by simp)⟩
  have loop : codeAny (model X.prog X.w) X.A (.compLoop (.ListComp elt [⟨tg, iter, ifs, 0⟩] scope pos) 0 (.ref it) (.ref D) ce) (compPost (model X.prog X.w) X.A X.xe use Qf (.ref D) s3.heap.objs.size) s4 := by
    refine compLoop_any (fun n s' => ∃ i H', Inv (X.blk s3 H3 scope ce fp) [] (wipe σ (own.map (·.2))) H' s' ∧ tn i s'.heap ∧ (∀ b ∈ fp, H' b = none) ∧ W i n H') ?_ m0 ⟨0, H3, I4, st4, nfp, w0⟩
    rintro n s5 ⟨i, H5, I5, st5, n5, w5⟩
    rcases turn i n H5 w5 with ⟨stop, qq⟩ | ⟨go, Nx, hNx, step⟩
    · have td := T.done (X.blk s3 H3 scope ce fp) rfl rfl rfl hc i [] s5 _ H5 (fun _ _ => False) I5 (stat I5 n5) st5 stop
      refine thnF td fun r s6 ⟨hr, I6⟩ => ?_
      subst hr
      -- back in the def's context
      have I7 : Inv X pins σ H5 s6 := I3.call' (ch := fp) I6.os I6.base I6.hok I6.bare fun b hb => ⟨(f3 b hb).1.2.2.2.1, (f3 b hb).1.2.1, (f3 b hb).1.2.2.2.2.1, (f3 b hb).1.2.2.2.2.2⟩
      have nC : H5 s3.heap.objs.size = none := by
        have z : H5 ce.locals = none := I6.free
        rw [cL] at z
        exact z
      obtain ⟨m, hn, _⟩ := I6.loc
      have hn : s6.heap.Ns ce.locals m := hn
      rw [cL] at hn
      exact hRR D s3.heap.objs.size s6 m H5 I7 qq hn (I3.fpOk (Nat.le_refl _) nC)
    · have ti := T.item (X.blk s3 H3 scope ce fp) rfl rfl rfl hc i [] s5 _ H5 (fun _ _ => False) I5 (stat I5 n5) st5 go
      refine thnF ti fun r s6 ⟨u, hr, h6⟩ => ?_
      subst hr
      refine thnF h6 fun _ s7 ⟨x, H7, I7, r7, y7, st7, n7⟩ => ?_
      have I7' := I7.pinned (stat I7 n7) (T.obj _ _ st7)
      refine thnF (pg _ s7 _ H7 x u _ I7' r7 (step x H7 y7)) fun _ s8 ⟨σ8, H8, I8, hw8, q8⟩ => ?_
      refine thnF (pt _ s8 σ8 H8 _ I8 q8) fun b s9 ⟨H9, I9, q9⟩ => ?_
      -- the turn's end
      have fin : ∀ {s' : Shared} {H' : Hp}, Inv (X.blk s3 H3 scope ce fp) ([] ++ pinsAt fp s7.heap) σ8 H' s' → Nx H' → ∃ m, m < n ∧ ∃ i H', Inv (X.blk s3 H3 scope ce fp) [] (wipe σ (own.map (·.2))) H' s' ∧ tn i s'.heap ∧ (∀ b ∈ fp, H' b = none) ∧ W i m H' := fun {s' H'} I' nx => by
        obtain ⟨m', hm, w'⟩ := hNx H' nx
        have pin' : ∀ b ∈ fp, ∀ o, s7.heap.get? b = some o → s'.heap.get? b = some o ∧ H' b = none := fun b hb o e =>
          let z := I'.pin (b, o) (List.mem_append_right _ (List.mem_append_right _ (mem_pinsAt hb e)))
          ⟨z.1, z.2.1⟩
        have hl : (wipe σ (own.map (·.2))).length = σ8.length := by rw [← hw8, wipe_length]
        refine ⟨m', hm, i + 1, H', (I'.unpinned (pins := [])).weak hl (fun j v e => ?_), T.keep _ _ _ st7 fun b hb o e => (pin' b hb o e).1, fun b hb => ?_, w'⟩
        · rw [← hw8] at e
          exact (wipe_some e).1
        · obtain ⟨o, e, _⟩ := T.obj _ _ st7 b hb
          exact (pin' b hb o e).2
      cases b with
      | false =>
        simp only [Bool.false_eq_true, if_false] at q9 ⊢
        exact fin I9 q9
      | true =>
        simp only [if_true] at q9 ⊢
        refine thnF (pe _ s9 σ8 H9 _ I9 q9) fun z s10 ⟨yv, H10, I10, r10, acc, hD10, hz10, nx⟩ => ?_
        exact app_ok (X := X.blk s3 H3 scope ce fp) I10 hD10 hz10 r10 fun s11 I11 => fin I11 nx
  exact codeAny_compStart_list loop (T.self X.A 0 _ _ _ st4 loop)
/-- as a value -/
theorem pe_lc {elt tg iter : Expr} {ifs : List Expr} {scope : Scope} {own : List (Str × Nat)} {pos : Pos} {wi : TI} {g : TG} {tt : TT} {te : TE} (hc : X.calm = true) (hN : X.N.Nodup) (hi : PI X tg iter wi) (ok : BlkOk X.N X.env.scope scope own)
    (hg : ∀ (s : Shared) (H : Hp) (C : Addr) (cl : List (Str × Addr)) (fp : List Addr), PG (X.blk s H scope (compEnvC scope cl C X.env) fp) tg g) (ht : ∀ (s : Shared) (H : Hp) (C : Addr) (cl : List (Str × Addr)) (fp : List Addr), PTs (X.blk s H scope (compEnvC scope cl C X.env) fp) ifs tt)
    (he : ∀ (s : Shared) (H : Hp) (C : Addr) (cl : List (Str × Addr)) (fp : List Addr), PE (X.blk s H scope (compEnvC scope cl C X.env) fp) elt te) (hs : ∀ x, foldedSetIterable iter X.env x = pure x := by intro _; rfl) :
    PE X (.ListComp elt [⟨tg, iter, ifs, 0⟩] scope pos) (tLc wi g tt te (own.map (·.2))) := by
  intro pins s σ H Q I h
  rw [eval_ListComp]
  refine lc_core hc hN I hi ok hg ht he hs h fun D C s' m H' I' q hn f => ⟨m, hn, fun h'' sb => ?_⟩
  obtain ⟨f0, f1, f2, f3, f4, f5⟩ := f
  exact ⟨.ref D, H', I'.turned (t' := s'.toks) (fun b o hb e => (sb.2 b hb).trans e) f0 f1 f3 f4 f5, rfl, q⟩
end
/-- over a list that the block leaves as it is -/
theorem lc_list {K : PySem.W.Frag} {a : Addr} {xs : List V} {g : TG} {tt : TT} {te : TE} {vs : List Nat} {σ : St} {H1 : Hp} {D : Addr} {Qd : Hp → Prop} (Pv : Nat → Hp → Prop) (h0 : Pv 0 (upd H1 D (.lst []))) (hl : ∀ i H, i ≤ xs.length → Pv i H → SqL K H a xs)
    (hs : ∀ i x H, xs[i]? = some x → Pv i H → g x (wipe σ vs) H fun σ2 H2 => wipe σ2 vs = wipe σ vs ∧ tt σ2 H2 fun b H3 =>
      if b = true then te σ2 H3 fun y H4 => ∃ acc, H4 D = some (.lst acc) ∧ acc.length < sizeLine ∧ Pv (i + 1) (upd H4 D (.lst (acc ++ [y]))) else Pv (i + 1) H3) (hd : ∀ H, Pv xs.length H → Qd H) :
    ∃ W : Nat → Nat → Hp → Prop, (∃ m, W 0 m (upd H1 D (.lst []))) ∧ ∀ i m H, W i m H →
      ((Itl K a).stop i H ∧ Qd H) ∨ ((Itl K a).go i H ∧ ∃ Nx : Hp → Prop, (∀ H', Nx H' → ∃ m', m' < m ∧ W (i + 1) m' H') ∧ ∀ x H', (Itl K a).yld i H x H' → g x (wipe σ vs) H' fun σ2 H2 => wipe σ2 vs = wipe σ vs ∧ tt σ2 H2 fun b H3 =>
        if b = true then te σ2 H3 fun y H4 => ∃ acc, H4 D = some (.lst acc) ∧ acc.length < sizeLine ∧ Nx (upd H4 D (.lst (acc ++ [y]))) else Nx H3) := by
  refine ⟨fun i m H => m = xs.length - i ∧ i ≤ xs.length ∧ Pv i H, ⟨xs.length, by simp, Nat.zero_le _, h0⟩, ?_⟩
  rintro i m H ⟨rfl, hi, p⟩
  have q := hl i H hi p
  by_cases hlt : i < xs.length
  · refine .inr ⟨⟨xs, xs[i], q, by simp [hlt]⟩, Pv (i + 1), fun H' p' => ⟨xs.length - (i + 1), by omega, rfl, hlt, p'⟩, fun x H' y => ?_⟩
    obtain ⟨e, y⟩ := y
    subst e
    exact hs i x _ (y xs q) p
  · have e : i = xs.length := by omega
    subst e
    exact .inl ⟨⟨xs, q, Nat.le_refl _⟩, hd H p⟩
def blkC (N : List Str) (sc scope : Scope) (own : List (Str × Nat)) : Bool :=
  (match scope.kind with | .function => true | _ => false) && (scope.names.all fun y => decide (scope.names.lookup y.1 = some y.2)) && (own.all fun p => decide (N[p.2]? = some p.1)) &&
    (scope.names.all fun y => match y.2 with
      | .free => (match sc.names.lookup y.1 with | some .cell => true | some .free => true | _ => false)
      | .local => decide (y.1 ∈ own.map (·.1)) || decide (y.1 ∉ N)
      | .cell => decide (y.1 ∈ own.map (·.1)) || decide (y.1 ∉ N)
      | _ => true)
theorem blkOk_by {N : List Str} {sc scope : Scope} {own : List (Str × Nat)} (h : blkC N sc scope own = true) : BlkOk N sc scope own := by
  unfold blkC at h
  simp only [Bool.and_eq_true, List.all_eq_true, decide_eq_true_eq] at h
  obtain ⟨⟨⟨h1, h2⟩, h3⟩, h4⟩ := h
  refine ⟨?_, h2, h3, fun y hy e => ?_, fun y hy e => ?_⟩
  · split at h1
    · assumption
    · cases h1
  · have q := h4 y hy
    simp only [e] at q
    split at q <;> first | exact .inl (by assumption) | exact .inr (by assumption) | cases q
  · have q := h4 y hy
    rcases e with e | e <;> (simp only [e, Bool.or_eq_true, decide_eq_true_eq] at q; exact q)
end L2
namespace L2
open PySem PySem.Spec PyProof.Rows
section
variable {prog : Program} {w : World} {A : Around} {R : Result → Shared → Prop} {s : Shared} {elt t0 i0 t1 i1 : Expr} {ifs0 ifs1 : List Expr} {scope : Scope} {pos : Pos} {it acc : Value} {env : Env}
end
section
variable {X : Cx}
end
end L2
namespace L2
open PySem PySem.Spec PyProof.Rows
section
variable {κ : Type} [DecidableEq κ]
def valV (kvs : List (κ × V)) (k : κ) : Option V := (kvs.find? fun kv => decide (kv.1 = k)).map (·.2)
/-- in its place, or at the end -/
def putK (kvs : List (κ × V)) (k : κ) (v : V) : List (κ × V) :=
  if (kvs.any fun kv => decide (kv.1 = k)) = true then kvs.map (fun kv => if kv.1 = k then (kv.1, v) else kv) else kvs ++ [(k, v)]
def dropK (kvs : List (κ × V)) (k : κ) : List (κ × V) := kvs.filter fun kv => decide (kv.1 ≠ k)
theorem valV_nil {k : κ} : valV ([] : List (κ × V)) k = none := rfl
theorem valV_pos {p : κ × V} {r : List (κ × V)} {k : κ} (e : p.1 = k) : valV (p :: r) k = some p.2 := by simp [valV, List.find?_cons, e]
theorem valV_neg {p : κ × V} {r : List (κ × V)} {k : κ} (e : ¬ p.1 = k) : valV (p :: r) k = valV r k := by simp [valV, List.find?_cons, e]
theorem valV_any (k : κ) : ∀ kvs : List (κ × V), (kvs.any fun kv => decide (kv.1 = k)) = (valV kvs k).isSome
  | [] => rfl
  | p :: r => by
    rw [List.any_cons]
    by_cases e : p.1 = k
    · simp only [valV_pos e, decide_eq_true e, Bool.true_or, Option.isSome_some]
    · rw [valV_neg e, decide_eq_false e, Bool.false_or]; exact valV_any k r
theorem valV_map (k j : κ) (y : V) : ∀ kvs : List (κ × V), valV (kvs.map fun kv => if kv.1 = k then (kv.1, y) else kv) j = (valV kvs j).map fun x => if j = k then y else x
  | [] => rfl
  | p :: r => by
    have ih := valV_map k j y r
    rw [List.map_cons]
    by_cases h : p.1 = k
    · rw [if_pos h]
      by_cases e : p.1 = j
      · rw [valV_pos (p := (p.1, y)) e, valV_pos e, Option.map_some, if_pos (e.symm.trans h)]
      · rw [valV_neg (p := (p.1, y)) e, valV_neg e, ih]
    · rw [if_neg h]
      by_cases e : p.1 = j
      · rw [valV_pos (p := p) e, valV_pos e, Option.map_some, if_neg (fun z => h (e.trans z))]
      · rw [valV_neg (p := p) e, valV_neg e, ih]
theorem valV_snoc (k j : κ) (y : V) : ∀ kvs : List (κ × V), valV kvs k = none → valV (kvs ++ [(k, y)]) j = if j = k then some y else valV kvs j
  | [], _ => by
    by_cases e : k = j
    · rw [if_pos e.symm]; exact valV_pos (p := (k, y)) e
    · rw [if_neg (fun z => e z.symm)]; exact valV_neg (p := (k, y)) e
  | p :: r, hn => by
    rw [List.cons_append]
    have hk : ¬ p.1 = k := fun z => by rw [valV_pos z] at hn; cases hn
    rw [valV_neg hk] at hn
    have ih := valV_snoc k j y r hn
    by_cases e : p.1 = j
    · rw [valV_pos e, valV_pos e, if_neg (fun z => hk (e.trans z))]
    · rw [valV_neg e, valV_neg e, ih]
theorem valV_put (kvs : List (κ × V)) (k j : κ) (y : V) : valV (putK kvs k y) j = if j = k then some y else valV kvs j := by
  unfold putK
  by_cases a : (kvs.any fun kv => decide (kv.1 = k)) = true
  · rw [if_pos a, valV_map]
    rw [valV_any] at a
    by_cases e : j = k
    · obtain ⟨x, hx⟩ := Option.isSome_iff_exists.mp a
      rw [if_pos e, e, hx, Option.map_some, if_pos rfl]
    · rw [if_neg e]
      cases valV kvs j with
      | none => rfl
      | some x => rw [Option.map_some, if_neg e]
  · rw [if_neg a]
    refine valV_snoc k j y kvs ?_
    rw [valV_any] at a
    cases q : valV kvs k with
    | none => rfl
    | some x => rw [q] at a; exact (a rfl).elim
theorem length_putK (kvs : List (κ × V)) (k : κ) (v : V) : (putK kvs k v).length ≤ kvs.length + 1 := by
  unfold putK
  split
  · rw [List.length_map]; omega
  · rw [List.length_append, List.length_cons, List.length_nil]; omega
theorem putK_new {kvs : List (κ × V)} {k : κ} (v : V) (h : valV kvs k = none) : putK kvs k v = kvs ++ [(k, v)] := by
  unfold putK
  rw [valV_any, h]
  exact if_neg (by decide)
theorem RelO.isSome_eq {o : Option V} {u : Option Value} (r : RelO o u) : o.isSome = u.isSome := by
  cases o with
  | none => cases u with
    | none => rfl
    | some _ => exact (show False from r).elim
  | some _ => cases u with
    | none => exact (show False from r).elim
    | some _ => rfl
theorem RelO.getD {o : Option V} {u : Option Value} {d : V} {d' : Value} (r : RelO o u) (rd : RelV d d') : RelV (o.getD d) (u.getD d') := by
  cases o with
  | none => cases u with
    | none => exact rd
    | some _ => exact (show False from r).elim
  | some _ => cases u with
    | none => exact (show False from r).elim
    | some _ => exact r
/-- raw tables of the same keys -/
theorem KV.val {kvs : List (κ × V)} {vs : List (κ × Value)} (r : KV kvs vs) (k : κ) : RelO (valV kvs k) (valueAt vs k) := by
  unfold KV at r
  induction r with
  | nil => exact True.intro
  | @cons p q ps qs h t ih =>
    obtain ⟨h1, h2⟩ := h
    by_cases e : p.1 = k
    · have e' : q.1 = k := h1.symm.trans e
      have b : valueAt (q :: qs) k = some q.2 := by simp [valueAt, List.find?_cons, e']
      rw [valV_pos e, b]; exact h2
    · have e' : ¬ q.1 = k := fun z => e (h1.trans z)
      have b : valueAt (q :: qs) k = valueAt qs k := by simp [valueAt, List.find?_cons, e']
      rw [valV_neg e, b]; exact ih
theorem KV.any {kvs : List (κ × V)} {vs : List (κ × Value)} (r : KV kvs vs) (k : κ) : (kvs.any fun kv => decide (kv.1 = k)) = vs.any fun kv => decide (kv.1 = k) := by
  unfold KV at r
  induction r with
  | nil => rfl
  | cons h t ih => rw [List.any_cons, List.any_cons, ih, h.1]
theorem KV.repl {kvs : List (κ × V)} {vs : List (κ × Value)} (r : KV kvs vs) (k : κ) {y : V} {u : Value} (ry : RelV y u) :
    KV (kvs.map fun kv => if kv.1 = k then (kv.1, y) else kv) (vs.map fun kv => if kv.1 = k then (kv.1, u) else kv) := by
  unfold KV at r ⊢
  induction r with
  | nil => exact .nil
  | @cons p q ps qs h t ih =>
    rw [List.map_cons, List.map_cons]
    refine .cons ?_ ih
    obtain ⟨h1, h2⟩ := h
    by_cases e : p.1 = k
    · rw [if_pos e, if_pos (h1.symm.trans e)]; exact ⟨h1, ry⟩
    · rw [if_neg e, if_neg (fun z => e (h1.trans z))]; exact ⟨h1, h2⟩
theorem KV.put {kvs : List (κ × V)} {vs : List (κ × Value)} (r : KV kvs vs) (k : κ) {y : V} {u : Value} (ry : RelV y u) : KV (putK kvs k y) (stored vs k u) := by
  unfold putK stored
  rw [r.any k]
  by_cases e : (vs.any fun kv => decide (kv.1 = k)) = true
  · rw [if_pos e, if_pos e]; exact r.repl k ry
  · rw [if_neg e, if_neg e]; exact Paired.snoc r ⟨rfl, ry⟩
theorem KV.drop {kvs : List (κ × V)} {vs : List (κ × Value)} (r : KV kvs vs) (k : κ) : KV (dropK kvs k) (without vs k) := by
  unfold KV at r ⊢
  unfold dropK without
  induction r with
  | nil => exact .nil
  | @cons p q ps qs h t ih =>
    obtain ⟨h1, h2⟩ := h
    rw [List.filter_cons, List.filter_cons]
    by_cases e : p.1 = k
    · have a : ¬ decide (p.1 ≠ k) = true := by simp [e]
      have b : ¬ decide (q.1 ≠ k) = true := by simp [h1.symm.trans e]
      rw [if_neg a, if_neg b]; exact ih
    · have e' : ¬ q.1 = k := fun z => e (h1.trans z)
      have a : decide (p.1 ≠ k) = true := by simp [e]
      have b : decide (q.1 ≠ k) = true := by simp [e']
      rw [if_pos a, if_pos b]; exact .cons ⟨h1, h2⟩ ih
theorem KV.keys {kvs : List (κ × V)} {vs : List (κ × Value)} (r : KV kvs vs) : kvs.map (·.1) = vs.map (·.1) := by
  unfold KV at r
  induction r with
  | nil => rfl
  | cons h t ih => rw [List.map_cons, List.map_cons, ih, h.1]
theorem KV.length {kvs : List (κ × V)} {vs : List (κ × Value)} (r : KV kvs vs) : kvs.length = vs.length := Paired.length r
theorem dropK_le (kvs : List (κ × V)) (k : κ) : (dropK kvs k).length ≤ kvs.length := List.length_filter_le _ _
end
theorem kV_is {P : Program} {w : World} {k : Key} {u : Value} (r : RelV (kV k) u) : (mixKind P w).is k u = true := by
  cases k with
  | inl i => obtain ⟨t, e⟩ := (show ∃ t, u = Value.int i t from r); subst e; exact mixKind_int P w i t
  | inr x => obtain ⟨t, e⟩ := (show ∃ t, u = Value.str x t from r); subst e; exact mixKind_str P w x t
theorem items_are {P : Program} {w : World} : ∀ {ks : List Key} {us : List Value}, Vals (ks.map kV) us → ItemsAre (mixKind P w) ks us
  | [], _, r => by rw [List.map_nil] at r; cases r; exact .nil
  | k :: ks, _, r => by
    rw [List.map_cons] at r
    cases r with
    | cons h t => exact .cons (kV_is h) (items_are t)
/-- raw entries of a dict with tuple keys -/
abbrev KT (H : Hp) : List (List Key × V) → List (List Key × Addr × Value) → Prop := Paired fun p q => p.1 = q.1 ∧ H q.2.1 = some (.tup (p.1.map kV)) ∧ RelV p.2 q.2.2
theorem KT.val {H : Hp} {kvs : List (List Key × V)} {xs : List (List Key × Addr × Value)} (r : KT H kvs xs) (k : List Key) : RelO (valV kvs k) ((atKey xs k).map (·.2)) := by
  induction r with
  | nil => exact True.intro
  | @cons p q ps qs h t ih =>
    obtain ⟨h1, _, h2⟩ := h
    by_cases e : p.1 = k
    · have e' : q.1 = k := h1.symm.trans e
      have b : atKey (q :: qs) k = some q.2 := by simp [atKey, List.find?_cons, e']
      rw [valV_pos e, b]; exact h2
    · have e' : ¬ q.1 = k := fun z => e (h1.trans z)
      have b : atKey (q :: qs) k = atKey qs k := by simp [atKey, List.find?_cons, e']
      rw [valV_neg e, b]; exact ih
theorem KT.repl {H : Hp} {kvs : List (List Key × V)} {xs : List (List Key × Addr × Value)} (r : KT H kvs xs) (k : List Key) {y : V} {u : Value} (ry : RelV y u) :
    KT H (kvs.map fun kv => if kv.1 = k then (kv.1, y) else kv) (xs.map (putAt k u)) := by
  induction r with
  | nil => exact .nil
  | @cons p q ps qs h t ih =>
    rw [List.map_cons, List.map_cons]
    refine .cons ?_ ih
    obtain ⟨h1, h2, h3⟩ := h
    unfold putAt
    by_cases e : p.1 = k
    · rw [if_pos e, if_pos (h1.symm.trans e)]; exact ⟨h1, h2, ry⟩
    · rw [if_neg e, if_neg (fun z => e (h1.trans z))]; exact ⟨h1, h2, h3⟩
theorem KT.put {H : Hp} {kvs : List (List Key × V)} {xs : List (List Key × Addr × Value)} (r : KT H kvs xs) (k : List Key) {b : Addr} {y : V} {u : Value} (hb : H b = some (.tup (k.map kV))) (ry : RelV y u) :
    KT H (putK kvs k y) (storedH xs k b u) := by
  have e : (kvs.any fun kv => decide (kv.1 = k)) = (atKey xs k).isSome := by
    rw [valV_any, (r.val k).isSome_eq, Option.isSome_map]
  unfold putK storedH
  rw [e]
  by_cases q : (atKey xs k).isSome = true
  · rw [if_pos q, if_pos q]; exact r.repl k ry
  · rw [if_neg q, if_neg q]; exact Paired.snoc r ⟨rfl, hb, ry⟩
theorem KT.keeps {H H' : Hp} {kvs : List (List Key × V)} {xs : List (List Key × Addr × Value)} (r : KT H kvs xs) (ht : ∀ b ys, H b = some (.tup ys) → H' b = some (.tup ys)) : KT H' kvs xs :=
  Paired.mapP r fun _ _ z => ⟨z.1, ht _ _ z.2.1, z.2.2⟩
section
variable {P : Program} {w : World} {H : Hp} {h : Heap} {a : Addr}
theorem rd_of {u : HO} (ok : HOk P w H h) (e : Rd H a u) : ObjOk P w H h a u := e.ok ok
theorem dk_rd {kvs : List (Key × V)} (ok : HOk P w H h) (e : Rd H a (.dK kvs)) : kvs.length ≤ sizeLine ∧ (a == sysModules) = false ∧ ∃ vs, KV kvs vs ∧ h.DictOf (mixKind P w) a vs :=
  show ObjOk P w H h a (.dK kvs) from rd_of ok e
theorem dk_of {kvs : List (Key × V)} (ok : HOk P w H h) (e : H a = some (.dK kvs)) : kvs.length ≤ sizeLine ∧ (a == sysModules) = false ∧ ∃ vs, KV kvs vs ∧ h.DictOf (mixKind P w) a vs := dk_rd ok (.inl e)
/-- a tracked tuple of ints and texts is a key -/
theorem key_of {ks : List Key} (ok : HOk P w H h) (e : H a = some (.tup (ks.map kV))) : (tupleKind (mixKind P w)).is h ks a := by
  obtain ⟨_, its, r, o, h1, h2, n, h3⟩ := (show ObjOk P w H h a (.tup (ks.map kV)) from ok a _ e)
  exact ⟨o, its.toArray, n, h1, h2, h3, by simpa using items_are r⟩
theorem dt_rd {kvs : List (List Key × V)} (ok : HOk P w H h) (e : Rd H a (.dT kvs)) : kvs.length ≤ sizeLine ∧ (a == sysModules) = false ∧
    ∃ xs, KT H kvs xs ∧ h.DictOfH (tupleKind (mixKind P w)) a xs := by
  obtain ⟨z, y, xs, r, o, es, ep, h1, h2, h3, h4, h5⟩ := (show ObjOk P w H h a (.dT kvs) from rd_of ok e)
  refine ⟨z, y, xs, r, o, es, ep, h1, h2, h3, h4, fun x hx => ?_, h5⟩
  have all : ∀ {l : List (List Key × V)} {m : List (List Key × Addr × Value)}, KT H l m → ∀ x ∈ m, (tupleKind (mixKind P w)).is h x.1 x.2.1 := by
    intro l m q
    induction q with
    | nil => intro x hx; exact nomatch hx
    | @cons p q ps qs hq t ih =>
      intro x hx
      rcases List.mem_cons.mp hx with e | hx
      · subst e
        exact key_of ok (by rw [← hq.1]; exact hq.2.1)
      · exact ih x hx
  exact all r x hx
theorem dt_of {kvs : List (List Key × V)} (ok : HOk P w H h) (e : H a = some (.dT kvs)) : kvs.length ≤ sizeLine ∧ (a == sysModules) = false ∧
    ∃ xs, KT H kvs xs ∧ h.DictOfH (tupleKind (mixKind P w)) a xs := dt_rd ok (.inl e)
end
/-- what the dict at a holds at the key y -/
def DGet (H : Hp) (a : Addr) (y : V) (r : Option V) : Prop :=
  (∃ kvs k, Rd H a (.dK kvs) ∧ y = kV k ∧ r = valV kvs k) ∨ ∃ kvs k b, Rd H a (.dT kvs) ∧ y = .ref b ∧ H b = some (.tup (k.map kV)) ∧ r = valV kvs k
/-- the heap behind a[y] = v -/
def DPut (H : Hp) (a : Addr) (y v : V) (H' : Hp) : Prop :=
  (∃ kvs k, H a = some (.dK kvs) ∧ y = kV k ∧ kvs.length < sizeLine ∧ H' = upd H a (.dK (putK kvs k v))) ∨
  ∃ kvs k b, H a = some (.dT kvs) ∧ y = .ref b ∧ H b = some (.tup (k.map kV)) ∧ kvs.length < sizeLine ∧ H' = upd H a (.dT (putK kvs k v))
theorem DGet.k {H : Hp} {a : Addr} {kvs : List (Key × V)} {k : Key} (e : H a = some (.dK kvs)) : DGet H a (kV k) (valV kvs k) := .inl ⟨kvs, k, .inl e, rfl, rfl⟩
theorem DGet.t {H : Hp} {a b : Addr} {kvs : List (List Key × V)} {k : List Key} (e : H a = some (.dT kvs)) (eb : H b = some (.tup (k.map kV))) : DGet H a (.ref b) (valV kvs k) := .inr ⟨kvs, k, b, .inl e, rfl, eb, rfl⟩
theorem DPut.k {H : Hp} {a : Addr} {kvs : List (Key × V)} {k : Key} {v : V} (e : H a = some (.dK kvs)) (hl : kvs.length < sizeLine) : DPut H a (kV k) v (upd H a (.dK (putK kvs k v))) := .inl ⟨kvs, k, e, rfl, hl, rfl⟩
theorem DPut.t {H : Hp} {a b : Addr} {kvs : List (List Key × V)} {k : List Key} {v : V} (e : H a = some (.dT kvs)) (eb : H b = some (.tup (k.map kV))) (hl : kvs.length < sizeLine) :
    DPut H a (.ref b) v (upd H a (.dT (putK kvs k v))) := .inr ⟨kvs, k, b, e, rfl, eb, hl, rfl⟩
section
variable {X : Cx} {pins : List (Addr × Obj)} {σ : St} {H : Hp} {s : Shared} {a : Addr} {y v : V} {u r : Value} {o : Option V} {A : Around} {E : Value → Shared → Prop}
theorem Inv.big (I : Inv X pins σ H s) : sysModules < s.heap.objs.size := by
  have h : mainGlobals < s.heap.objs.size := (I.mod.glob.keeps I.bk).lt
  exact Nat.lt_trans (by decide) h
/-- d[y], there -/
theorem d_getItem {Q : Value → Shared → Prop} (hu : A.units + 1 < cLine) (I : Inv X pins σ H s) (g : DGet H a y (some v)) (ry : RelV y u) (h : ∀ w' s', Inv X pins σ H s' → RelV v w' → Q w' s') :
    wpAny (model X.prog X.w) A (getItem (.ref a) u) Q E s := by
  rcases g with ⟨kvs, k, e, ey, l⟩ | ⟨kvs, k, b, e, ey, eb, l⟩
  · subst ey
    obtain ⟨z, hd, vs, rel, dd⟩ := dk_rd I.hok e
    obtain ⟨w', hw, rw'⟩ := RelO.some_of (v := v) (o := valueAt vs k) (by rw [l]; exact rel.val k)
    exact wpAny_getItem_of (kV_is ry) dd.mapOf hw (h w' _ (I.tok _) rw')
  · subst ey
    cases (show u = Value.ref b from ry)
    obtain ⟨z, hd, xs, rel, dd⟩ := dt_rd I.hok e
    obtain ⟨w', hw, rw'⟩ := RelO.some_of (v := v) (o := (atKey xs k).map (·.2)) (by rw [l]; exact rel.val k)
    obtain ⟨p, hp, hp2⟩ := Option.map_eq_some_iff.mp hw
    refine wpAny_getItem_heap (tupleKind_room_in1 hu) (key_of I.hok eb) dd hp ?_
    rw [hp2]
    exact h w' _ (I.tok _) rw'
/-- y in d -/
theorem d_in {Q : Value → Shared → Prop} (hu : A.units + 1 < cLine) (I : Inv X pins σ H s) (g : DGet H a y o) (ry : RelV y u) (h : ∀ s', Inv X pins σ H s' → Q (.bool o.isSome) s') :
    wpAny (model X.prog X.w) A (compareOp .In u (.ref a)) Q E s := by
  rcases g with ⟨kvs, k, e, ey, l⟩ | ⟨kvs, k, b, e, ey, eb, l⟩
  · subst ey
    obtain ⟨z, hd, vs, rel, dd⟩ := dk_rd I.hok e
    refine wpAny_in_of (kV_is ry) hd dd.mapOf ?_
    rw [← (rel.val k).isSome_eq, ← l]
    exact h _ (I.tok _)
  · subst ey
    cases (show u = Value.ref b from ry)
    obtain ⟨z, hd, xs, rel, dd⟩ := dt_rd I.hok e
    refine wpAny_in_heap (tupleKind_room_in1 hu) (key_of I.hok eb) hd dd ?_
    have q := (rel.val k).isSome_eq
    rw [Option.isSome_map] at q
    rw [← q, ← l]
    exact h _ (I.tok _)
theorem d_notIn {Q : Value → Shared → Prop} (hu : A.units + 1 < cLine) (I : Inv X pins σ H s) (g : DGet H a y o) (ry : RelV y u) (h : ∀ s', Inv X pins σ H s' → Q (.bool (!o.isSome)) s') :
    wpAny (model X.prog X.w) A (compareOp .NotIn u (.ref a)) Q E s := by
  rcases g with ⟨kvs, k, e, ey, l⟩ | ⟨kvs, k, b, e, ey, eb, l⟩
  · subst ey
    obtain ⟨z, hd, vs, rel, dd⟩ := dk_rd I.hok e
    refine wpAny_notIn_of (kV_is ry) hd dd.mapOf ?_
    rw [← (rel.val k).isSome_eq, ← l]
    exact h _ (I.tok _)
  · subst ey
    cases (show u = Value.ref b from ry)
    obtain ⟨z, hd, xs, rel, dd⟩ := dt_rd I.hok e
    refine wpAny_notIn_heap (tupleKind_room_in1 hu) (key_of I.hok eb) hd dd ?_
    have q := (rel.val k).isSome_eq
    rw [Option.isSome_map] at q
    rw [← q, ← l]
    exact h _ (I.tok _)
/-- a dict's object is replaced -/
theorem d_write {h' : Heap} {t' : Nat} {ob : HO} (I : Inv X pins σ H s) (mu : Mut (H a)) (hs : Heap.SameBut a s.heap h') (he : ∃ q, h'.get? a = some q) (new : ObjOk X.prog X.w (upd H a ob) h' a ob) :
    Inv X pins σ (upd H a ob) { s with heap := h', toks := t' } :=
  I.write (x := a) (e := a) mu (.inl rfl) (fun b q hb z => (hs.2 b hb).trans z) he new
theorem dk_new {P : Program} {w : World} {H' : Hp} {h' : Heap} {kvs : List (Key × V)} {vs : List (Key × Value)} (z : kvs.length ≤ sizeLine) (hd : (a == sysModules) = false) (rel : KV kvs vs) (dd : h'.DictOf (mixKind P w) a vs) :
    ObjOk P w H' h' a (.dK kvs) := ⟨z, hd, vs, rel, dd⟩
/-- d[y] = v -/
theorem d_setItem {H' : Hp} {Q : Unit → Shared → Prop} (hu : A.units + 1 < cLine) (I : Inv X pins σ H s) (g : DPut H a y v H') (ry : RelV y u) (rv : RelV v r) (h : ∀ s', Inv X pins σ H' s' → Q () s') :
    wpAny (model X.prog X.w) A (setItem (.ref a) u r) Q E s := by
  rcases g with ⟨kvs, k, e, ey, l, eH⟩ | ⟨kvs, k, b, e, ey, eb, l, eH⟩
  · subst ey eH
    obtain ⟨z, hd, vs, rel, dd⟩ := dk_of I.hok e
    have hz : vs.length ≤ sizeLine := by rw [← rel.length]; exact z
    have hl : (putK kvs k v).length ≤ sizeLine := by have := length_putK kvs k v; omega
    refine wpAny_setItem_pairs (hsz := hz) (kV_is ry) dd fun h' dd' hs => h _ ?_
    have he : ∃ q, h'.get? a = some q := let ⟨q, _, _, hq, _⟩ := dd'; ⟨q, hq⟩
    exact d_write I (by rw [e]; exact True.intro) hs he (dk_new hl hd (rel.put k rv) dd')
  · subst ey eH
    cases (show u = Value.ref b from ry)
    obtain ⟨z, hd, xs, rel, dd⟩ := dt_of I.hok e
    have hz : xs.length ≤ sizeLine := by rw [← Paired.length rel]; exact z
    have hl : (putK kvs k v).length ≤ sizeLine := by have := length_putK kvs k v; omega
    refine wpAny_setItem_heap (hsz := hz) (tupleKind_room_in1 hu) (key_of I.hok eb) dd fun h' dd' hs => h _ ?_
    obtain ⟨q, es, ep, hq, h2, h3, h4, _, h5⟩ := dd'
    refine d_write I (by rw [e]; exact True.intro) hs ⟨q, hq⟩ ⟨hl, hd, _, (rel.put k eb rv).keeps fun c ys ec => ?_, q, es, ep, hq, h2, h3, h4, h5⟩
    rw [upd_ne (ne_of ec e (fun z => nomatch z))]
    exact ec
end
section
variable {X : Cx} {pins : List (Addr × Obj)} {σ : St} {H : Hp} {s : Shared} {a : Addr} {kvs : List (Key × V)} {k : Key} {u : Value} {A : Around} {E : Value → Shared → Prop}
/-- d.pop(k[, x]), there -/
theorem d_pop {v : V} {more : List Value} {Q : Value → Shared → Prop} (I : Inv X pins σ H s) (e : H a = some (.dK kvs)) (ry : RelV (kV k) u) (l : valV kvs k = some v) (hm : more = [] ∨ ∃ x, more = [x])
    (h : ∀ w' s', Inv X pins σ (upd H a (.dK (dropK kvs k))) s' → RelV v w' → Q w' s') : wpAny (model X.prog X.w) A (call (.builtin "dict.pop") (.ref a :: u :: more)) Q E s := by
  obtain ⟨z, hd, vs, rel, dd⟩ := dk_of I.hok e
  obtain ⟨w', hw, rw'⟩ := RelO.some_of (v := v) (o := valueAt vs k) (by rw [← l]; exact rel.val k)
  have hp : (keyPart u).isSome = true := by
    cases k with
    | inl i => obtain ⟨t, q⟩ := (show ∃ t, u = Value.int i t from ry); subst q; rfl
    | inr x => obtain ⟨t, q⟩ := (show ∃ t, u = Value.str x t from ry); subst q; rfl
  have ha : argsOk "dict.pop" ⟨.ref a :: u :: more, []⟩ := by
    rcases hm with q | ⟨x, q⟩
    · subst q; exact PySem.F.args_dict_pop_2 _ _
    · subst q; exact PySem.F.args_dict_pop_3 _ _ _
  refine call_meetsIn PySem.F.slot_dict_pop dd.typeIs PySem.F.entry_dict_pop ha (meets_dict_pop_there (mixKind X.prog X.w) a (kV_is ry) more hm hp)
    ⟨vs, w', dd, by rw [← rel.length]; exact z, hw, fun h' dd' hs => h w' _ ?_ rw'⟩
  have he : ∃ q, h'.get? a = some q := let ⟨q, _, _, hq, _⟩ := dd'; ⟨q, hq⟩
  exact d_write I (by rw [e]; exact True.intro) hs he (dk_new (Nat.le_trans (dropK_le kvs k) z) hd (rel.drop k) dd')
/-- d.clear() -/
theorem d_clear {Q : Value → Shared → Prop} (I : Inv X pins σ H s) (e : H a = some (.dK kvs)) (h : ∀ s', Inv X pins σ (upd H a (.dK [])) s' → Q .none s') : wpAny (model X.prog X.w) A (call (.builtin "dict.clear") [.ref a]) Q E s := by
  obtain ⟨z, hd, vs, rel, dd⟩ := dk_of I.hok e
  refine call_meetsIn PySem.F.slot_dict_clear dd.typeIs PySem.F.entry_dict_clear (PySem.F.args_dict_clear_1 _) (meets_dict_clear (mixKind X.prog X.w) a) ⟨vs, dd, by rw [← rel.length]; exact z, fun h' dd' hs => h _ ?_⟩
  have he : ∃ q, h'.get? a = some q := let ⟨q, _, _, hq, _⟩ := dd'; ⟨q, hq⟩
  exact d_write (t' := s.toks) I (by rw [e]; exact True.intro) hs he (dk_new (Nat.zero_le _) hd .nil dd')
/-- len(d) -/
theorem d_len {Q : Value → Shared → Prop} (I : Inv X pins σ H s) (e : Rd H a (.dK kvs)) (h : ∀ t s', Inv X pins σ H s' → Q (.int kvs.length t) s') : wpAny (model X.prog X.w) A (call (.builtin "len") [.ref a]) Q E s := by
  obtain ⟨z, hd, vs, rel, dd⟩ := dk_rd I.hok e
  refine call_len_dict hd dd (by rw [← rel.length]; rw [sizeLine_eq] at z; omega) ?_
  rw [← rel.length]
  exact h _ _ (I.tok _)
end
/-- the element of a subscription, not a slice -/
def NoSl (i : Expr) : Prop := ∀ ov iv, subscripted i false ov iv = operate [ov, iv] (getItem ov iv)
theorem subD_of {prog : Program} {w : World} {A : Around} {E : Value → Shared → Prop} {s : Shared} {env : Env} {value slice : Expr} {pos : Pos} {T id : String} {Q : Value → Shared → Prop}
    (hl : typeLookup (.type T) "__getitem__" = pure (some (.builtin id))) (hs : NoSl slice)
    (h : wpAny (model prog w) A (eval value env) (fun o s₁ => wpAny (model prog w) A (eval slice env) (fun i s₂ => s₂.TypeIs o T ∧ wpAny (model prog w) A (getItem o i) Q E s₂) E s₁) E s) :
    wpAny (model prog w) A (eval (.Subscript value slice pos) env) Q E s := by
  refine Subscript_ (wpAny_mono h (fun o s₁ h₁ => wpAny_mono h₁ (fun i s₂ h₂ => ?_) fun _ _ x => x) fun _ _ x => x)
  obtain ⟨hT, h₂⟩ := h₂
  unfold subscriptTail
  refine wpAny_bind ?_
  rw [getitemInPython_of_ne hT.not_modules]
  refine wpAny_bind (wpAny_specialOf hT hl ?_)
  have fin : wpAny (model prog w) A (subscripted slice false o i) (fun r s₃ => wpAny (model prog w) A (letTemporaryGo value o r >>= fun _ => pure r) Q E s₃) E s₂ := by
    rw [hs o i]
    exact wpAny_operating (wpAny_mono h₂ (fun r s₃ h₃ => wpAny_bind (wpAny_letTemporaryGo (wpAny_pure h₃))) fun _ _ x => x)
  first
    | exact wpAny_pure (wpAny_bind fin)
    | exact wpAny_bind (wpAny_pure (wpAny_bind fin))
    | exact wpAny_bind fin
theorem dict_typeIs {X : Cx} {pins : List (Addr × Obj)} {σ : St} {H : Hp} {s : Shared} {a : Addr} {y : V} {o : Option V} (I : Inv X pins σ H s) (g : DGet H a y o) : s.TypeIs (.ref a) "dict" := by
  rcases g with ⟨kvs, k, e, _, _⟩ | ⟨kvs, k, b, e, _, _, _⟩
  · obtain ⟨_, _, vs, _, dd⟩ := dk_rd I.hok e
    exact dd.typeIs
  · obtain ⟨_, _, xs, _, dd⟩ := dt_rd I.hok e
    exact dd.typeIs
/-- d[y] -/
def tDGet (td ty : TE) : TE := fun σ H Q => td σ H fun x H1 => ty σ H1 fun y H2 => ∃ a v, x = .ref a ∧ DGet H2 a y (some v) ∧ Q v H2
/-- y in d, y not in d -/
def tDIn (ty td : TE) : TE := fun σ H Q => ty σ H fun y H1 => td σ H1 fun x H2 => ∃ a o, x = .ref a ∧ DGet H2 a y o ∧ Q (.bl o.isSome) H2
def tDNotIn (ty td : TE) : TE := fun σ H Q => ty σ H fun y H1 => td σ H1 fun x H2 => ∃ a o, x = .ref a ∧ DGet H2 a y o ∧ Q (.bl (!o.isSome)) H2
/-- d[y] = v -/
def sDPut (td ty tv : TE) : TS := fun D σ H => tv σ H fun v H1 => td σ H1 fun x H2 => ty σ H2 fun y H3 => ∃ a H4, x = .ref a ∧ DPut H3 a y v H4 ∧ D.nx σ H4
section
variable {X : Cx} {o i e value : Expr} {pos pos' tpos : Pos} {td ty tv : TE}
theorem pe_dget (hu : X.A.units + 1 < cLine) (ho : PE X o td) (hi : PE X i ty) (hs : NoSl i) : PE X (.Subscript o i pos) (tDGet td ty) := by
  intro pins s σ H Q I h
  refine subD_of PySem.F.slot_dict_getitem.lookup hs (thn (ho pins s σ H _ I h) fun u s1 ⟨x, H1, I1, rx, q1⟩ => thn (hi pins s1 σ H1 _ I1 q1) fun iv s2 ⟨y, H2, I2, ry, a, v, ex, g, q2⟩ => ?_)
  subst ex
  obtain rfl : u = Value.ref a := rx
  exact ⟨dict_typeIs I2 g, d_getItem hu I2 g ry fun w' s3 I3 rw' => ⟨v, H2, I3, rw', q2⟩⟩
theorem pc_din (hu : X.A.units + 1 < cLine) (hi : PE X i ty) (ho : PE X o td) : PC X .In i o (tDIn ty td) := by
  intro pins s σ H Q I h
  refine thn (hi pins s σ H _ I h) fun iv s1 ⟨y, H1, I1, ry, q1⟩ => thn (ho pins s1 σ H1 _ I1 q1) fun u s2 ⟨x, H2, I2, rx, a, ov, ex, g, q2⟩ => ?_
  subst ex
  obtain rfl : u = Value.ref a := rx
  exact d_in hu I2 g ry fun s3 I3 => ⟨.bl ov.isSome, H2, I3, rfl, q2⟩
theorem pc_dnotin (hu : X.A.units + 1 < cLine) (hi : PE X i ty) (ho : PE X o td) : PC X .NotIn i o (tDNotIn ty td) := by
  intro pins s σ H Q I h
  refine thn (hi pins s σ H _ I h) fun iv s1 ⟨y, H1, I1, ry, q1⟩ => thn (ho pins s1 σ H1 _ I1 q1) fun u s2 ⟨x, H2, I2, rx, a, ov, ex, g, q2⟩ => ?_
  subst ex
  obtain rfl : u = Value.ref a := rx
  exact d_notIn hu I2 g ry fun s3 I3 => ⟨.bl (!ov.isSome), H2, I3, rfl, q2⟩
theorem ps_dput (hu : X.A.units + 1 < cLine) (ho : PE X o td) (hi : PE X i ty) (hv : PE X value tv) (hs : swapsWith value (some (.Subscript o i pos')) pos.line X.env = pure false) :
    PS X (.Assign [.Subscript o i pos'] value pos) (sDPut td ty tv) := by
  intro pins s σ H D I h
  refine wpAny_Assign_Subscript (thn (hv pins s σ H _ I h) fun r s1 ⟨v, H1, I1, rv, q1⟩ => thn (ho pins s1 σ H1 _ I1 q1) fun u s2 ⟨x, H2, I2, rx, q2⟩ => thn (hi pins s2 σ H2 _ I2 q2) fun iv s3 ⟨y, H3, I3, ry, a, H4, ex, g, q3⟩ => ?_) hs
  subst ex
  obtain rfl : u = Value.ref a := rx
  exact d_setItem hu I3 g ry rv fun s4 I4 => ⟨σ, H4, I4, q3⟩
end
theorem dk_empty {P : Program} {w : World} {H : Hp} (h : Heap) (hb : sysModules < h.objs.size) : ObjOk P w H (h.push { cls := .type "dict", data := .dict #[] }) h.objs.size (.dK []) :=
  ⟨Nat.zero_le _, beq_eq_false_iff_ne.mpr (Ne.symm (Nat.ne_of_lt hb)), [], .nil, Heap.DictOf.new h⟩
/-- {}, to be a dict of the kind that is wanted -/
def tDNewK : TE := fun _ H Q => ∀ p, H p = none → Q (.ref p) (upd H p (.dK []))
section
variable {X : Cx} {pos : Pos}
theorem pe_dnewK : PE X (.Dict [] [] pos) tDNewK := fun pins s σ H Q I h =>
  wpAny_Dict_empty ⟨.ref s.heap.objs.size, _, I.laid (a := s.heap.objs.size) (o := .dK []) (t' := s.toks) (fun _ _ q => Heap.get?_push_of_some _ q) (Nat.le_refl _) (dk_empty s.heap I.big), rfl, h _ (I.hok.fresh (Nat.le_refl _))⟩
end
/-- a method call o.m(e) of a built-in, with one argument: what must be seen of the text -/
structure M1 (X : Cx) (o : Expr) (m : Str) (apos : Pos) (e : Expr) (cpos : Pos) : Prop where
  base : attributeBase o m X.env (eval o X.env) = eval o X.env
  few : ((backTo cpos (starEach [e] X.env)).all (fun x => !x.1) && (backToKw cpos (keywordEach [] X.env)).all (fun x => x.1.isSome)
    && decide (([e] : List Expr).length + ([] : List Keyword).length + (if ([] : List Keyword).isEmpty then 0 else 1) < 30)) = true
  line : (apos.endLine == cpos.line) = true
  trees : backTo cpos (starEach [e] X.env) = [(false, eval e X.env)]
/-- a is a dict, whatever its keys -/
def IsD (H : Hp) (a : Addr) : Prop := (∃ kvs, Rd H a (.dK kvs)) ∨ ∃ kvs, Rd H a (.dT kvs)
theorem isD_at {X : Cx} {pins : List (Addr × Obj)} {σ : St} {H : Hp} {s : Shared} {a : Addr} (I : Inv X pins σ H s) (d : IsD H a) :
    s.TypeIs (.ref a) "dict" ∧ (∀ b, Value.ref a = .ref b → ∃ ob, s.heap.get? b = some ob ∧ ob.dict = none) ∧ (a == sysModules) = false := by
  rcases d with ⟨kvs, e⟩ | ⟨kvs, e⟩
  · obtain ⟨_, hd, vs, _, dd⟩ := dk_rd I.hok e
    refine ⟨dd.typeIs, fun b q => ?_, hd⟩
    cases q
    obtain ⟨ob, _, _, h1, h2, _⟩ := dd
    exact ⟨ob, h1, h2.2.1⟩
  · obtain ⟨_, hd, xs, _, dd⟩ := dt_rd I.hok e
    refine ⟨dd.typeIs, fun b q => ?_, hd⟩
    cases q
    obtain ⟨ob, _, _, h1, h2, _⟩ := dd
    exact ⟨ob, h1, h2.2.1⟩
section
variable {X : Cx} {pins : List (Addr × Obj)} {σ : St} {H : Hp} {s : Shared} {a : Addr} {y d : V} {u r : Value} {o : Option V} {A : Around} {E : Value → Shared → Prop}
end
/-- d.pop(k): there; d.pop(k, x): there or not -/
def tDPop1 (td ty : TE) : TE := fun σ H Q => td σ H fun x H1 => ∃ a, x = .ref a ∧ IsD H1 a ∧ ty σ H1 fun y H2 => ∃ kvs k v, H2 a = some (.dK kvs) ∧ y = kV k ∧ valV kvs k = some v ∧ Q v (upd H2 a (.dK (dropK kvs k)))
section
variable {X : Cx} {o e f : Expr} {apos cpos : Pos} {td ty tx : TE}
theorem pe_dpop1 (ho : PE X o td) (he : PE X e ty) (m : M1 X o "pop" apos e cpos) : PE X (.Call (.Attribute o "pop" apos) [e] [] cpos) (tDPop1 td ty) := by
  intro pins s σ H Q I h
  refine wpAny_Call_method m.base m.few m.line PySem.F.plainAttrs_dict PySem.F.slot_dict_pop PySem.F.type_dict_pop (thn (ho pins s σ H _ I h) fun u s1 ⟨x, H1, I1, rx, a, ex, d, q1⟩ => ?_)
  subst ex
  obtain rfl : u = Value.ref a := rx
  obtain ⟨t1, t2, _⟩ := isD_at I1 d
  refine ⟨t1, t2, ?_⟩
  rw [m.trees]
  refine Calls.callWith_builtin rfl (Calls.evalArgs_plain (Calls.spliced_cons (thn (he pins s1 σ H1 _ I1 q1) fun iv s2 ⟨y, H2, I2, ry, kvs, k, v, ea, ey, l, q2⟩ => Calls.spliced_nil ?_)))
  subst ey
  exact d_pop I2 ea ry l (.inl rfl) fun w' s3 I3 rw' => ⟨v, _, I3, rw', q2⟩
end
section
variable {X : Cx} {pins : List (Addr × Obj)} {σ : St} {H : Hp} {s : Shared} {a : Addr} {kvs : List (Key × V)} {A : Around} {E : Value → Shared → Prop}
theorem d_copyOf {Q : Value → Shared → Prop} (I : Inv X pins σ H s) (e : Rd H a (.dK kvs)) (h : ∀ p s', H p = none → Inv X pins σ (upd H p (.dK kvs)) s' → Q (.ref p) s') : wpAny (model X.prog X.w) A (call (.type "dict") [.ref a]) Q E s := by
  obtain ⟨z, hd, vs, rel, dd⟩ := dk_rd I.hok e
  refine kt_call_dict hd dd (by rw [← rel.length]; exact z) fun h' dd' hs => ?_
  refine h _ _ (I.hok.fresh (Nat.le_refl _)) (I.laid (a := s.heap.objs.size) (o := .dK kvs) (t' := s.toks) (fun b q hq => ?_) (Nat.le_refl _) (dk_new z (beq_eq_false_iff_ne.mpr (Ne.symm (Nat.ne_of_lt I.big))) rel dd'))
  exact (hs.2 b (Nat.ne_of_lt (Heap.lt_size hq))).trans (Heap.get?_push_of_some _ hq)
end
section
variable {X : Cx} {pins : List (Addr × Obj)} {σ : St} {H : Hp} {s : Shared} {a : Addr} {y : V} {u : Value} {A : Around} {E : Value → Shared → Prop}
end
end L2
namespace L2
open PySem PySem.Spec PyProof.Rows
section
variable {prog : Program} {w : World} {A : Around} {E : Value → Shared → Prop}
end
section
variable {X : Cx}
end
end L2
namespace L2
open PySem PySem.Spec PyProof.Rows
section
variable {X : Cx} {pins : List (Addr × Obj)} {σ : St} {H : Hp} {s : Shared} {h' : Heap}
end
section
variable {X : Cx}
theorem pi_one {tg : Expr} {pins : List (Addr × Obj)} {σ : St} {H : Hp} {s : Shared} {R : It → Hp → Prop} {J : It} {tn : Nat → Heap → Prop} {tk : Nat} (I : Inv X pins σ H s) (o : Obj)
    (T : Turn X.prog X.w X.K tg J [s.heap.objs.size] s.heap.objs.size tn) (st : tn 0 (s.heap.push o)) (q : R J H) : PIE X pins σ tg R (.ref s.heap.objs.size) { s with heap := s.heap.push o, toks := tk } := by
  refine ⟨s.heap.objs.size, [s.heap.objs.size], tn, J, H, rfl, I.kept fun b ob e => Heap.get?_push_of_some _ e, T, st, fun b hb => ?_, q⟩
  have e : b = s.heap.objs.size := by simpa using hb
  subst e
  exact I.fpOk (Nat.le_refl _) (I.hok.fresh (Nat.le_refl _))
end
/-- lo, lo + c, .. (n of them) -/
def Itc (lo c : Int) (n : Nat) : It := ⟨fun i _ => i < n, fun i H x H' => H' = H ∧ x = .int (lo + (i : Nat) * c), fun i _ => n ≤ i⟩
theorem turn_rangeC {P : Program} {w : World} {K : PySem.W.Frag} {tg : Expr} (it : Addr) (lo c : Int) (n : Nat) : Turn P w K tg (Itc lo c n) [it] it (fun i h => IsRangeIter h it (lo + (i : Nat) * c) ((n : Int) - (i : Nat)) c) where
  mem := by simp
  obj := fun i h st b hb => by
    have e : b = it := by simpa using hb
    subst e
    exact ⟨_, st, fun v z => nomatch z⟩
  keep := fun i h h' st k => k it (by simp) _ st
  item := by
    intro X hP hw hK hc i pins s σ H E I hf st hg
    subst hP hw hK
    obtain ⟨f0, f1, f2, f3, f4, f5⟩ := hf it (by simp)
    have W := Walks.range (prog := X.prog) (w := X.w) (I.ok.hd hc) it lo c n
    refine W.item i s _ _ hg st fun v h' tk hv st' kk => ?_
    obtain ⟨t, rfl⟩ := hv
    have I1 : Inv X pins σ H { s with heap := h', toks := tk } := I.turned (fun b o hb e => kk b o (by simpa using hb) e) f0 f1 f3 f4 f5
    exact ⟨_, rfl, go_of (s := { s with heap := h', toks := tk }) (n := "range_iterator") st' rfl rfl (by decide) ⟨.int (lo + (i : Nat) * c), H, I1, ⟨t, rfl⟩, ⟨rfl, rfl⟩, st', fun b hb => (hf b hb).1⟩⟩
  done := by
    intro X hP hw hK hc i pins s σ H E I hf st hg
    subst hP hw hK
    obtain ⟨f0, f1, f2, f3, f4, f5⟩ := hf it (by simp)
    exact wpAny_pyNext_range_end (I.ok.hd hc) st (by have : n ≤ i := hg; omega) fun h' eb => ⟨rfl, I.turned (t' := s.toks) (fun b o hb e => eb b o hb e) f0 f1 f3 f4 f5⟩
  self := fun A i s Q E st h => wpAny_pyIter_rangeiter st h
/-- range(i, j, c): small bounds, n items -/
def RgC (i j c : Int) (n : Nat) : Prop := c ≠ 0 ∧ c.natAbs < 1073741824 ∧ Builtin.Range.small i j c = true ∧ Builtin.Range.rangeSize i j c = n
theorem RgC.neg {i j : Int} (ha : -(2 ^ 62) ≤ i) (ha' : i < 2 ^ 62) (hb : -(2 ^ 62) ≤ j) (hb' : j < 2 ^ 62) : RgC i j (-1) (i - j).toNat :=
  ⟨by decide, by decide, PySem.W.small_down ha ha' hb hb', PySem.W.rangeSize_downNat i j⟩
def iRng3 (ta : TA) : TI := fun σ H R => ta σ H fun vs H1 => ∃ (i j c : Int) (n : Nat), vs = [.int i, .int j, .int c] ∧ RgC i j c n ∧ R (Itc i c n) H1
section
variable {X : Cx} {tg : Expr}
theorem pi_range3 {a b c : Expr} {ta : TA} {p pos : Pos} (hg : Gl X "range") (hm : X.mg "range" = none) (ha : PA X [a, b, c] ta)
    (hs : starEach [a, b, c] X.env = (false, eval a X.env) :: starEach [b, c] X.env := by rfl) (hpl : (backTo pos (starEach [b, c] X.env)).any (·.1) = false := by rfl) :
    PI X tg (.Call (.Name "range" p) [a, b, c] [] pos) (iRng3 ta) := by
  intro pins s σ H R I h
  refine Call_ (ld_blt I hg hm boot_range (PyProof.Rows.callWith_type1 (thn (ha pos pins s σ H _ I h) fun us s1 ⟨vs, H1, I1, r1, q1⟩ => ?_) hs hpl))
  obtain ⟨i, j, k, n, e, ⟨c0, c1, c2, c3⟩, q⟩ := q1
  subst e
  cases r1 with
  | cons r rr =>
    cases rr with
    | cons r' rr =>
      cases rr with
      | cons r'' rr =>
        cases rr
        obtain ⟨t, rfl⟩ := r
        obtain ⟨t', rfl⟩ := r'
        obtain ⟨t'', rfl⟩ := r''
        refine call_range_3 c0 ?_ (.inl (PyProof.noPylong_small c1))
        refine wpAny_pyIter_range (IsRange.new ..) c2 ?_
        have I2 : Inv X pins σ H1 { s1 with heap := s1.heap.push { cls := .type "range", data := .fields #[.int i t, .int j t', .int k t''] } } := I1.kept (t' := s1.toks) fun b o e => Heap.get?_push_of_some _ e
        refine pi_one (tk := s1.toks) I2 _ (turn_rangeC _ i k n) ?_ q
        have e1 : i + ((0 : Nat) : Int) * k = i := by simp
        have e2 : (n : Int) - ((0 : Nat) : Int) = Builtin.Range.rangeSize i j k := by rw [c3]; simp
        show IsRangeIter _ _ (i + ((0 : Nat) : Int) * k) ((n : Int) - ((0 : Nat) : Int)) k
        rw [e1, e2]
        exact Heap.get?_push_size _ rfl
end
/-- the turns of a step range, for the for loop -/
theorem for_rangeC {lo c : Int} {n : Nat} {g : TG} {tb : TS} {D : Ends} {σ : St} {H : Hp} (Pv : Nat → St → Hp → Prop) (h0 : Pv 0 σ H)
    (hs : ∀ i σ H, i < n → Pv i σ H → g (.int (lo + (i : Nat) * c)) σ H fun σ2 H2 => tb { D with nx := Pv (i + 1), ct := Pv (i + 1), bk := D.nx } σ2 H2) (hd : ∀ σ H, Pv n σ H → D.nx σ H) :
    ∃ W : Nat → Nat → St → Hp → Prop, (∃ m, W 0 m σ H) ∧ ∀ i m σ H, W i m σ H →
      ((Itc lo c n).stop i H ∧ D.nx σ H) ∨ ((Itc lo c n).go i H ∧ ∃ N : St → Hp → Prop, (∀ σ' H', N σ' H' → ∃ m', m' < m ∧ W (i + 1) m' σ' H') ∧ ∀ x H', (Itc lo c n).yld i H x H' → g x σ H' fun σ2 H2 => tb { D with nx := N, ct := N, bk := D.nx } σ2 H2) := by
  refine ⟨fun i m σ H => m = n - i ∧ i ≤ n ∧ Pv i σ H, ⟨n, by simp, Nat.zero_le _, h0⟩, ?_⟩
  rintro i m σ H ⟨rfl, hi, p⟩
  by_cases hlt : i < n
  · refine .inr ⟨hlt, Pv (i + 1), fun σ' H' p' => ⟨n - (i + 1), by omega, rfl, hlt, p'⟩, fun x H' y => ?_⟩
    obtain ⟨e, y⟩ := y
    subst e y
    exact hs i σ _ hlt p
  · have e : i = n := by omega
    subst e
    exact .inl ⟨Nat.le_refl _, hd σ H p⟩
section
variable {X : Cx} {tg : Expr}
end
section
variable {prog : Program} {w : World} {A : Around} {E : Value → Shared → Prop} {s : Shared}
end
section
variable {X : Cx} {pins : List (Addr × Obj)} {σ : St} {H : Hp} {s : Shared} {d : Addr} {o : Obj}
end
section
variable {P : Program} {w : World} {K : PySem.W.Frag} {tg : Expr} {d : Addr} {o : Obj} {es : Array DictEntry} {ep : Nat}
end
section
variable {X : Cx} {tg e : Expr} {td : TE} {apos cpos : Pos}
end
end L2
section
set_option Elab.async false
set_option linter.all false
set_option maxRecDepth 100000
set_option maxHeartbeats 2000000
namespace L2
open PySem PySem.Spec PyProof.Rows
open PySem.W (WData Codec OpenSpec Well WellAll ReadsW ReadsAllW)
mutual
/-- x stands for the datum d, lists and tuples all the way -/
inductive Dw (K : PySem.W.Frag) (H : Hp) : V → WData → Prop
  | non : Dw K H .non .none
  | bl (b : Bool) : Dw K H (.bl b) (.bool b)
  | int (i : Int) : Dw K H (.int i) (.int i)
  | str (x : Str) : Dw K H (.str x) (.str x)
  | byt (b : Array UInt8) : Dw K H (.byt b) (.bytes b.toList)
  | lst {a : Addr} {xs : List V} {ds : List WData} : SqL K H a xs → DwAll K H xs ds → Dw K H (.ref a) (.list ds)
  | tup {a : Addr} {xs : List V} {ds : List WData} : SqT K H a xs → DwAll K H xs ds → Dw K H (.ref a) (.tuple ds)
inductive DwAll (K : PySem.W.Frag) (H : Hp) : List V → List WData → Prop
  | nil : DwAll K H [] []
  | cons {v : V} {vs : List V} {d : WData} {ds : List WData} : Dw K H v d → DwAll K H vs ds → DwAll K H (v :: vs) (d :: ds)
end
theorem dw_ints {K : PySem.W.Frag} {H : Hp} : ∀ ns : List Int, DwAll K H (ns.map V.int) (ns.map WData.int)
  | [] => .nil
  | n :: r => .cons (.int n) (dw_ints r)
theorem ints_dw {K : PySem.W.Frag} {H : Hp} : ∀ (ns : List Int) (xs : List V), DwAll K H xs (ns.map WData.int) → xs = ns.map V.int
  | [], xs, h => by
    cases h
    rfl
  | n :: r, xs, h => by
    cases h with
    | cons h1 h2 =>
      cases h1
      rw [ints_dw r _ h2] <;> rfl
section
variable {P : Program} {w : World} {K : PySem.W.Frag} {H : Hp} {h : Heap} {R : PySem.W.WRecords} {cl : Str → Option Addr}
theorem sqL_at {a : Addr} {xs : List V} (hok : HOk P w H h) (KX : K.In h) (q : SqL K H a xs) : ∃ (its : List Value) (o : Obj) (n : Nat), Vals xs its ∧ h.get? a = some o ∧ o.cls = .type "list" ∧ o.data = .seq its.toArray n := by
  rcases q with q | ⟨o, its, n, e, hc, _, hd, _, hv⟩
  · obtain ⟨_, its, n, hv, e⟩ := (show ObjOk P w H h a (.lst xs) from q.ok hok)
    exact ⟨its, _, n, hv, e, rfl, rfl⟩
  · exact ⟨its.toList, o, n, hv, KX _ _ e, hc, by simp [hd]⟩
theorem sqT_at {a : Addr} {xs : List V} (hok : HOk P w H h) (KX : K.In h) (q : SqT K H a xs) : ∃ (its : List Value) (o : Obj) (n : Nat), Vals xs its ∧ h.get? a = some o ∧ o.cls = .type "tuple" ∧ o.data = .seq its.toArray n := by
  rcases q with q | ⟨o, its, n, e, hc, hd, _, hv⟩
  · obtain ⟨_, its, hv, o, e, hc, n, hd⟩ := (show ObjOk P w H h a (.tup xs) from q.ok hok)
    exact ⟨its, o, n, hv, e, hc, hd⟩
  · exact ⟨its.toList, o, n, hv, KX _ _ e, hc, by simp [hd]⟩
mutual
theorem Dw.reads (hok : HOk P w H h) (KX : K.In h) : ∀ (d : WData) (v : V) (u : Value), Dw K H v d → RelV v u → ∃ as, ReadsW R cl h u d as
  | .none, _, _, x, r => by
    cases x
    cases r
    exact ⟨_, ReadsW.none⟩
  | .bool b, _, _, x, r => by
    cases x
    cases r
    exact ⟨_, ReadsW.bool b⟩
  | .int i, _, _, x, r => by
    cases x
    obtain ⟨t, rfl⟩ := r
    exact ⟨_, ReadsW.int i t⟩
  | .str s, _, _, x, r => by
    cases x
    obtain ⟨t, rfl⟩ := r
    exact ⟨_, ReadsW.str s t⟩
  | .bytes b, _, _, x, r => by
    cases x
    obtain ⟨t, rfl⟩ := r
    exact ⟨_, ReadsW.bytes _ t⟩
  | .list ds, _, _, x, r => by
    cases x with
    | lst hs ha =>
      cases r
      obtain ⟨its, o, n, rv, ho, hc, hd⟩ := sqL_at hok KX hs
      obtain ⟨as, hr⟩ := Dw.readsAll hok KX ds _ its ha rv
      exact ⟨_, ReadsW.list ho hc hd hr⟩
  | .tuple ds, _, _, x, r => by
    cases x with
    | tup hs ha =>
      cases r
      obtain ⟨its, o, n, rv, ho, hc, hd⟩ := sqT_at hok KX hs
      obtain ⟨as, hr⟩ := Dw.readsAll hok KX ds _ its ha rv
      exact ⟨_, ReadsW.tuple ho hc hd hr⟩
  | .float _, _, _, x, _ => by cases x
  | .dict _, _, _, x, _ => by cases x
  | .bytearray _, _, _, x, _ => by cases x
  | .set _, _, _, x, _ => by cases x
  | .frozenset _, _, _, x, _ => by cases x
  | .obj _ _, _, _, x, _ => by cases x
theorem Dw.readsAll (hok : HOk P w H h) (KX : K.In h) : ∀ (ds : List WData) (vs : List V) (us : List Value), DwAll K H vs ds → Vals vs us → ∃ as, ReadsAllW R cl h us ds as
  | [], _, _, x, r => by
    cases x
    cases r
    exact ⟨_, ReadsAllW.nil⟩
  | d :: ds, _, _, x, r => by
    cases x with
    | cons h1 h2 =>
      cases r with
      | cons r1 r2 =>
        obtain ⟨as, q1⟩ := Dw.reads hok KX d _ _ h1 r1
        obtain ⟨bs, q2⟩ := Dw.readsAll hok KX ds _ _ h2 r2
        exact ⟨_, ReadsAllW.cons q1 q2⟩
end
end
mutual
/-- data that a codec tells -/
def plW : WData → Bool
  | .none => true
  | .bool _ => true
  | .int _ => true
  | .str _ => true
  | .bytes _ => true
  | .list xs => plWs xs
  | .tuple xs => plWs xs
  | _ => false
def plWs : List WData → Bool
  | [] => true
  | x :: r => plW x && plWs r
end
theorem plWs_map {α : Type} {f : α → WData} (h : ∀ a, plW (f a) = true) : ∀ l : List α, plWs (l.map f) = true
  | [] => rfl
  | x :: r => by
    show (plW (f x) && plWs (r.map f)) = true
    rw [h x, plWs_map h r] <;> rfl
theorem pl_enc : ∀ (c : Codec) (a : c.denote), plW (c.enc a) = true
  | .unit, _ => rfl
  | .bool, _ => rfl
  | .int _ _, _ => rfl
  | .nat _ _, _ => rfl
  | .u8, _ => rfl
  | .bytes _ _, _ => rfl
  | .text _ _ _ _, _ => rfl
  | .list _ _ c, a => plWs_map (fun x => pl_enc c x) a
  | .pair c d, a => by
    show (plW (c.enc a.1) && (plW (d.enc a.2) && true)) = true
    rw [pl_enc c a.1, pl_enc d a.2] <;> rfl
  | .triple c d e, a => by
    show (plW (c.enc a.1) && (plW (d.enc a.2.1) && (plW (e.enc a.2.2) && true))) = true
    rw [pl_enc c a.1, pl_enc d a.2.1, pl_enc e a.2.2] <;> rfl
  | .option c, none => rfl
  | .option c, some x => pl_enc c x
theorem pl_encAll : ∀ (cs : List Codec) (a : Codec.denoteAll cs), plWs (Codec.encAll cs a) = true
  | [], _ => rfl
  | c :: cs, a => by
    show (plW (c.enc a.1) && plWs (Codec.encAll cs a.2)) = true
    rw [pl_enc c a.1, pl_encAll cs a.2] <;> rfl
theorem weight_mem : ∀ {xs : List WData} {d : WData}, d ∈ xs → d.weight ≤ WData.weightAll xs
  | [], d, h => absurd h (by simp)
  | x :: r, d, h => by
    show d.weight ≤ x.weight + 1 + WData.weightAll r
    rcases List.mem_cons.mp h with e | m
    · rw [e]
      omega
    · have z := weight_mem m
      omega
def toV : Value → V
  | .none => .non
  | .bool b => .bl b
  | .int i _ => .int i
  | .str x _ => .str x
  | .bytes b _ => .byt b
  | .ref a => .ref a
  | _ => .non
/-- a value of the arguments, its objects among A -/
def OkU (A : List Addr) : Value → Prop
  | .none => True
  | .bool _ => True
  | .int _ _ => True
  | .str _ _ => True
  | .bytes _ _ => True
  | .ref a => a ∈ A
  | _ => False
theorem OkU.mono {A B : List Addr} (h : ∀ a ∈ A, a ∈ B) : ∀ {u : Value}, OkU A u → OkU B u := fun {u} x => by
  cases u with
  | ref a => exact h a x
  | none => trivial
  | bool b => trivial
  | int i t => trivial
  | str s t => trivial
  | bytes b t => trivial
  | _ => exact False.elim x
theorem relV_toV {A : List Addr} {u : Value} (x : OkU A u) : RelV (toV u) u := by
  cases u with
  | ref a => rfl
  | none => rfl
  | bool b => rfl
  | int i t => exact ⟨t, rfl⟩
  | str s t => exact ⟨t, rfl⟩
  | bytes b t => exact ⟨t, rfl⟩
  | _ => exact False.elim x
theorem vals_toV {A : List Addr} : ∀ {vs : List Value}, (∀ u ∈ vs, OkU A u) → Vals (vs.map toV) vs
  | [], _ => .nil
  | u :: r, h => .cons (relV_toV (h u (List.mem_cons_self ..))) (vals_toV fun x hx => h x (List.mem_cons_of_mem _ hx))
/-- an object of the arguments -/
def ArgOb (h : Heap) (A : List Addr) (a : Addr) : Prop := ∃ vs : List Value, vs.length ≤ sizeLine ∧ (∀ u ∈ vs, OkU A u) ∧
  (h.get? a = some { cls := .type "list", data := .seq vs.toArray } ∨ h.get? a = some { cls := .type "tuple", data := .seq vs.toArray })
theorem ArgOb.mono {h : Heap} {A B : List Addr} {a : Addr} (k : ∀ a ∈ A, a ∈ B) (x : ArgOb h A a) : ArgOb h B a := by
  obtain ⟨vs, h1, h2, h3⟩ := x
  exact ⟨vs, h1, fun u hu => (h2 u hu).mono k, h3⟩
theorem wellAll_len {P : Params} {h : Heap} : ∀ {vs : List Value} {ds : List WData}, WellAll P h vs ds → vs.length = ds.length
  | _, _, .nil => rfl
  | _, _, .cons _ b => by
    show _ + 1 = _ + 1
    rw [wellAll_len b]
theorem well_list {P : Params} {h : Heap} {v : Value} {ds : List WData} (x : Well P h v (.list ds)) : ∃ (a : Addr) (vs : List Value), v = .ref a ∧ h.get? a = some { cls := .type "list", data := .seq vs.toArray } ∧ WellAll P h vs ds := by
  cases x with
  | list ho hall => exact ⟨_, _, rfl, ho, hall⟩
theorem well_tuple {P : Params} {h : Heap} {v : Value} {ds : List WData} (x : Well P h v (.tuple ds)) : ∃ (a : Addr) (vs : List Value), v = .ref a ∧ h.get? a = some { cls := .type "tuple", data := .seq vs.toArray } ∧ WellAll P h vs ds := by
  cases x with
  | tuple ho hall => exact ⟨_, _, rfl, ho, hall⟩
theorem well_cons {P : Params} {h : Heap} {us : List Value} {d : WData} {ds : List WData} (x : WellAll P h us (d :: ds)) : ∃ (v : Value) (vs : List Value), us = v :: vs ∧ Well P h v d ∧ WellAll P h vs ds := by
  cases x with
  | cons a b => exact ⟨_, _, rfl, a, b⟩
theorem line_of {n : Nat} (h : n ≤ 1048576) : n ≤ sizeLine := Nat.le_trans h (by decide)
section
variable {P : Params} {h : Heap}
mutual
theorem area_one : ∀ (d : WData) (v : Value), Well P h v d → plW d = true → d.weight ≤ 1048576 → ∃ A : List Addr, OkU A v ∧ ∀ a ∈ A, ArgOb h A a
  | .none, _, x, _, _ => by
    cases x
    exact ⟨[], trivial, fun a m => absurd m (by simp)⟩
  | .bool b, _, x, _, _ => by
    cases x
    exact ⟨[], trivial, fun a m => absurd m (by simp)⟩
  | .int i, _, x, _, _ => by
    cases x
    exact ⟨[], trivial, fun a m => absurd m (by simp)⟩
  | .str s, _, x, _, _ => by
    cases x
    exact ⟨[], trivial, fun a m => absurd m (by simp)⟩
  | .bytes b, _, x, _, _ => by
    cases x
    exact ⟨[], trivial, fun a m => absurd m (by simp)⟩
  | .list ds, _, x, p, z => by
    obtain ⟨a, vs, rfl, ho, hall⟩ := well_list x
    have z2 : WData.weightAll ds ≤ 1048576 := z
    obtain ⟨A, h1, h2⟩ := area_all ds _ hall p fun d hd => Nat.le_trans (weight_mem hd) z2
    have k : ∀ b ∈ A, b ∈ a :: A := fun b hb => List.mem_cons_of_mem _ hb
    refine ⟨a :: A, List.mem_cons_self .., fun b hb => ?_⟩
    rcases List.mem_cons.mp hb with e | m
    · rw [e]
      exact ⟨vs, line_of (by rw [wellAll_len hall]; exact Nat.le_trans (PySem.W.length_le_weightAllW ds) z2), fun u hu => (h1 u hu).mono k, .inl ho⟩
    · exact (h2 b m).mono k
  | .tuple ds, _, x, p, z => by
    obtain ⟨a, vs, rfl, ho, hall⟩ := well_tuple x
    have z2 : WData.weightAll ds ≤ 1048576 := z
    obtain ⟨A, h1, h2⟩ := area_all ds _ hall p fun d hd => Nat.le_trans (weight_mem hd) z2
    have k : ∀ b ∈ A, b ∈ a :: A := fun b hb => List.mem_cons_of_mem _ hb
    refine ⟨a :: A, List.mem_cons_self .., fun b hb => ?_⟩
    rcases List.mem_cons.mp hb with e | m
    · rw [e]
      exact ⟨vs, line_of (by rw [wellAll_len hall]; exact Nat.le_trans (PySem.W.length_le_weightAllW ds) z2), fun u hu => (h1 u hu).mono k, .inr ho⟩
    · exact (h2 b m).mono k
  | .float _, _, _, p, _ => Bool.noConfusion (show false = true from p)
  | .dict _, _, _, p, _ => Bool.noConfusion (show false = true from p)
  | .bytearray _, _, _, p, _ => Bool.noConfusion (show false = true from p)
  | .set _, _, _, p, _ => Bool.noConfusion (show false = true from p)
  | .frozenset _, _, _, p, _ => Bool.noConfusion (show false = true from p)
  | .obj _ _, _, _, p, _ => Bool.noConfusion (show false = true from p)
theorem area_all : ∀ (ds : List WData) (vs : List Value), WellAll P h vs ds → plWs ds = true → (∀ d ∈ ds, d.weight ≤ 1048576) → ∃ A : List Addr, (∀ u ∈ vs, OkU A u) ∧ ∀ a ∈ A, ArgOb h A a
  | [], _, x, _, _ => by
    cases x
    exact ⟨[], fun u m => absurd m (by simp), fun a m => absurd m (by simp)⟩
  | d :: ds, _, x, p, z => by
    obtain ⟨v, vs, rfl, x1, x2⟩ := well_cons x
    have q : plW d = true ∧ plWs ds = true := Bool.and_eq_true_iff.mp p
    obtain ⟨A, a1, a2⟩ := area_one d v x1 q.1 (z d (List.mem_cons_self ..))
    obtain ⟨B, b1, b2⟩ := area_all ds vs x2 q.2 fun e he => z e (List.mem_cons_of_mem _ he)
    have kA : ∀ b ∈ A, b ∈ A ++ B := fun b hb => List.mem_append.mpr (.inl hb)
    have kB : ∀ b ∈ B, b ∈ A ++ B := fun b hb => List.mem_append.mpr (.inr hb)
    refine ⟨A ++ B, fun u hu => ?_, fun b hb => ?_⟩
    · rcases List.mem_cons.mp hu with e | m
      · rw [e]
        exact a1.mono kA
      · exact (b1 u m).mono kB
    · rcases List.mem_append.mp hb with m | m
      · exact (a2 b m).mono kA
      · exact (b2 b m).mono kB
end
end
/-- what is tracked of an argument's object -/
def hoOf (o : Obj) : Option HO := match o.data with
  | .seq vs _ => if (o.cls == Value.type "list") = true then some (.frz o (.lst (vs.toList.map toV))) else some (.frz o (.tup (vs.toList.map toV)))
  | _ => none
def argH (K : PySem.W.Frag) (h : Heap) (A : List Addr) : Hp := fun b => if b ∈ A then (if (K.lookup b).isNone = true then (h.get? b).bind hoOf else none) else none
/-- nothing is tracked but what is known to the object -/
def OnlyF (H : Hp) : Prop := ∀ b, H b = none ∨ ∃ o u, H b = some (.frz o u)
theorem hoOf_lst (vs : List Value) : hoOf { cls := .type "list", data := .seq vs.toArray } = some (.frz { cls := .type "list", data := .seq vs.toArray } (.lst (vs.map toV))) := by
  show (if (Value.type "list" == Value.type "list") = true then some (HO.frz { cls := .type "list", data := .seq vs.toArray } (.lst (vs.toArray.toList.map toV))) else some (HO.frz { cls := .type "list", data := .seq vs.toArray } (.tup (vs.toArray.toList.map toV)))) = _
  rw [if_pos (beq_self_eq_true _)]
theorem hoOf_tup (vs : List Value) : hoOf { cls := .type "tuple", data := .seq vs.toArray } = some (.frz { cls := .type "tuple", data := .seq vs.toArray } (.tup (vs.map toV))) := by
  show (if (Value.type "tuple" == Value.type "list") = true then some (HO.frz { cls := .type "tuple", data := .seq vs.toArray } (.lst (vs.toArray.toList.map toV))) else some (HO.frz { cls := .type "tuple", data := .seq vs.toArray } (.tup (vs.toArray.toList.map toV)))) = _
  rw [if_neg (by decide)]
section
variable {P : Program} {w : World} {K : PySem.W.Frag} {h : Heap} {A : List Addr}
theorem argH_at {b : Addr} {o : Obj} (hb : b ∈ A) (hk : K.lookup b = none) (e : h.get? b = some o) : argH K h A b = hoOf o := by
  unfold argH
  rw [if_pos hb, hk, if_pos (show (none : Option Obj).isNone = true from rfl), e] <;> rfl
theorem of_argH {b : Addr} {u : HO} (q : argH K h A b = some u) : b ∈ A ∧ K.lookup b = none := by
  unfold argH at q
  by_cases hb : b ∈ A
  · rw [if_pos hb] at q
    cases hk : K.lookup b with
    | none => exact ⟨hb, rfl⟩
    | some o =>
      rw [hk, if_neg (by simp)] at q
      cases q
  · rw [if_neg hb] at q
    cases q
/-- what stands tracked -/
theorem argH_is (ar : ∀ a ∈ A, ArgOb h A a) {b : Addr} {u : HO} (q : argH K h A b = some u) : K.lookup b = none ∧ ∃ vs : List Value, vs.length ≤ sizeLine ∧ (∀ u ∈ vs, OkU A u) ∧
    ((h.get? b = some { cls := .type "list", data := .seq vs.toArray } ∧ u = .frz { cls := .type "list", data := .seq vs.toArray } (.lst (vs.map toV))) ∨
     (h.get? b = some { cls := .type "tuple", data := .seq vs.toArray } ∧ u = .frz { cls := .type "tuple", data := .seq vs.toArray } (.tup (vs.map toV)))) := by
  obtain ⟨hb, hk⟩ := of_argH q
  obtain ⟨vs, h1, h2, h3⟩ := ar b hb
  refine ⟨hk, vs, h1, h2, ?_⟩
  rcases h3 with e | e
  · rw [argH_at hb hk e, hoOf_lst] at q
    exact .inl ⟨e, (Option.some.inj q).symm⟩
  · rw [argH_at hb hk e, hoOf_tup] at q
    exact .inr ⟨e, (Option.some.inj q).symm⟩
theorem argH_only (ar : ∀ a ∈ A, ArgOb h A a) : OnlyF (argH K h A) := fun b => by
  cases q : argH K h A b with
  | none => exact .inl rfl
  | some u =>
    obtain ⟨_, vs, _, _, ⟨_, e⟩ | ⟨_, e⟩⟩ := argH_is ar q
    · exact .inr ⟨_, _, by rw [e]⟩
    · exact .inr ⟨_, _, by rw [e]⟩
theorem argH_ok (ar : ∀ a ∈ A, ArgOb h A a) : HOk P w (argH K h A) h := fun b u q => by
  obtain ⟨_, vs, h1, h2, ⟨e, rfl⟩ | ⟨e, rfl⟩⟩ := argH_is ar q
  · exact ⟨e, by rw [List.length_map]; exact h1, vs, _, vals_toV h2, e⟩
  · exact ⟨e, by rw [List.length_map]; exact h1, vs, vals_toV h2, _, e, rfl, _, rfl⟩
theorem seq_inj {c c' : Value} {vs us : List Value} (e : (some { cls := c, data := .seq vs.toArray } : Option Obj) = some { cls := c', data := .seq us.toArray }) : c = c' ∧ vs = us := by
  have e1 := Option.some.inj e
  have e2 : c = c' := congrArg Obj.cls e1
  have e3 : Data.seq vs.toArray = Data.seq us.toArray := congrArg Obj.data e1
  injection e3 with e4
  refine ⟨e2, ?_⟩
  have e5 := congrArg Array.toList e4
  simpa using e5
/-- a list argument -/
theorem argL (KX : K.In h) (ar : ∀ a ∈ A, ArgOb h A a) {a : Addr} {vs : List Value} (ha : a ∈ A) (e : h.get? a = some { cls := .type "list", data := .seq vs.toArray }) : (∀ u ∈ vs, OkU A u) ∧ SqL K (argH K h A) a (vs.map toV) := by
  obtain ⟨us, h1, h2, h3⟩ := ar a ha
  have hu : us = vs := by
    rcases h3 with q | q
    · rw [e] at q
      exact (seq_inj q).2.symm
    · rw [e] at q
      exact absurd (Value.type.inj (seq_inj q).1) (by decide)
  subst hu
  refine ⟨h2, ?_⟩
  cases hk : K.lookup a with
  | none => exact .inl (.inr ⟨_, by rw [argH_at ha hk e, hoOf_lst]⟩)
  | some o =>
    have e2 := KX a o hk
    rw [e] at e2
    obtain rfl := Option.some.inj e2
    exact .inr ⟨_, us.toArray, _, hk, rfl, rfl, rfl, by rw [List.size_toArray]; exact h1, by simpa using vals_toV h2⟩
theorem argT (KX : K.In h) (ar : ∀ a ∈ A, ArgOb h A a) {a : Addr} {vs : List Value} (ha : a ∈ A) (e : h.get? a = some { cls := .type "tuple", data := .seq vs.toArray }) : (∀ u ∈ vs, OkU A u) ∧ SqT K (argH K h A) a (vs.map toV) := by
  obtain ⟨us, h1, h2, h3⟩ := ar a ha
  have hu : us = vs := by
    rcases h3 with q | q
    · rw [e] at q
      exact absurd (Value.type.inj (seq_inj q).1) (by decide)
    · rw [e] at q
      exact (seq_inj q).2.symm
  subst hu
  refine ⟨h2, ?_⟩
  cases hk : K.lookup a with
  | none => exact .inl (.inr ⟨_, by rw [argH_at ha hk e, hoOf_tup]⟩)
  | some o =>
    have e2 := KX a o hk
    rw [e] at e2
    obtain rfl := Option.some.inj e2
    exact .inr ⟨_, us.toArray, _, hk, rfl, rfl, by rw [List.size_toArray]; exact h1, by simpa using vals_toV h2⟩
mutual
theorem dw_one {Pm : Params} (KX : K.In h) (ar : ∀ a ∈ A, ArgOb h A a) : ∀ (d : WData) (v : Value), Well Pm h v d → plW d = true → OkU A v → Dw K (argH K h A) (toV v) d
  | .none, _, x, _, _ => by
    cases x
    exact .non
  | .bool b, _, x, _, _ => by
    cases x
    exact .bl b
  | .int i, _, x, _, _ => by
    cases x
    exact .int i
  | .str s, _, x, _, _ => by
    cases x
    exact .str s
  | .bytes b, _, x, _, _ => by
    cases x
    have z := Dw.byt (K := K) (H := argH K h A) b.toArray
    exact z
  | .list ds, _, x, p, hu => by
    obtain ⟨a, vs, rfl, ho, hall⟩ := well_list x
    obtain ⟨h2, hs⟩ := argL KX ar hu ho
    exact .lst hs (dw_all KX ar ds _ hall p h2)
  | .tuple ds, _, x, p, hu => by
    obtain ⟨a, vs, rfl, ho, hall⟩ := well_tuple x
    obtain ⟨h2, hs⟩ := argT KX ar hu ho
    exact .tup hs (dw_all KX ar ds _ hall p h2)
  | .float _, _, _, p, _ => Bool.noConfusion (show false = true from p)
  | .dict _, _, _, p, _ => Bool.noConfusion (show false = true from p)
  | .bytearray _, _, _, p, _ => Bool.noConfusion (show false = true from p)
  | .set _, _, _, p, _ => Bool.noConfusion (show false = true from p)
  | .frozenset _, _, _, p, _ => Bool.noConfusion (show false = true from p)
  | .obj _ _, _, _, p, _ => Bool.noConfusion (show false = true from p)
theorem dw_all {Pm : Params} (KX : K.In h) (ar : ∀ a ∈ A, ArgOb h A a) : ∀ (ds : List WData) (vs : List Value), WellAll Pm h vs ds → plWs ds = true → (∀ u ∈ vs, OkU A u) → DwAll K (argH K h A) (vs.map toV) ds
  | [], _, x, _, _ => by
    cases x
    exact .nil
  | d :: ds, _, x, p, hu => by
    obtain ⟨v, vs, rfl, x1, x2⟩ := well_cons x
    have q : plW d = true ∧ plWs ds = true := Bool.and_eq_true_iff.mp p
    exact .cons (dw_one KX ar d v x1 q.1 (hu _ (List.mem_cons_self ..))) (dw_all KX ar ds vs x2 q.2 fun u m => hu u (List.mem_cons_of_mem _ m))
end
end
theorem spec_call {P : Program} {w : World} {K : PySem.W.Frag} {mg mb : Str → Option Value} {CX : CXT} {k : Nat} {fa : Addr} {fd : FuncData} {ps : List Str} {sp : Sp} {s₁ : Shared} {vals : List Value} {ds : List WData} {R : PySem.W.WRecords} {cl : Str → Option Addr} {d0 : WData}
    (KX : K.In s₁.heap) (hns : s₁.heap.Ns mainGlobals mg) (hb : s₁.heap.Ns builtinsNs mb) (hbb : ∀ x : Str, x ≠ "__name__" → mb x = bootBuiltins x) (hlim : s₁.heap.NoLimit) (hg : s₁.gens = #[])
    (hwl : WellAll w.params s₁.heap vals ds) (hpl : plWs ds = true) (hwt : ∀ d ∈ ds, d.weight ≤ 1048576) (hr : Room k callerA)
    (F : ∀ base : Heap, K.In base → base.Ns mainGlobals mg → FnOk P w K mg base CX k fa fd ps sp) (hbind : ∀ (s : Shared) (us : List Value), us.length = ps.length → BindsTo s fd ⟨us, []⟩ (ps.zip us)) (hlen : ds.length = ps.length)
    (hsp : ∀ (H : Hp) (xs : List V), OnlyF H → DwAll K H xs ds → sp xs H (fun v H' => Dw K H' v d0) fun _ _ _ => False)
    (hCX : ∀ H e s', CX [] H s₁ (fun _ _ _ => False) e s' → False) :
    codeAny (model P w) callerA (.call (.ref fa) ⟨vals, []⟩) (fun r s' => ∃ u as, r = .ok (.ret u) ∧ ReadsW R cl s'.heap u d0 as ∧ OldK s₁.heap s'.heap ∧ s'.os = s₁.os ∧ AllBare s'.gens) s₁ := by
  obtain ⟨A, ho, ar⟩ := area_all ds vals hwl hpl hwt
  have hO : OnlyF (argH K s₁.heap A) := argH_only ar
  have hok : HOk P w (argH K s₁.heap A) s₁.heap := argH_ok ar
  have hS := dw_all KX ar ds vals hwl hpl ho
  have hV := vals_toV ho
  have hK : ∀ b u, argH K s₁.heap A b = some u → K.lookup b = none := fun b u q => (argH_is ar q).1
  have noA : ∀ {b : Addr} {o : Obj} {es : Array DictEntry} {ep : Nat}, s₁.heap.get? b = some o → o.data = .dict es ep → argH K s₁.heap A b = none := fun {b o es ep} e d => by
    cases q : argH K s₁.heap A b with
    | none => rfl
    | some u =>
      obtain ⟨_, vs, _, _, ⟨e2, _⟩ | ⟨e2, _⟩⟩ := argH_is ar q
      · rw [e2] at e
        cases e
        have d' : Data.seq vs.toArray _ = Data.dict es ep := d
        cases d'
      · rw [e2] at e
        cases e
        have d' : Data.seq vs.toArray _ = Data.dict es ep := d
        cases d'
  generalize argH K s₁.heap A = H at hO hok hS hK noA
  have base_of : ∀ {b : Addr} {o : Obj}, s₁.heap.get? b = some o → H b = none → (hidT s₁.heap H).get? b = some o := fun e n => hidT_get e n
  have nsK : ∀ {b : Addr} {m : Str → Option Value}, s₁.heap.Ns b m → (hidT s₁.heap H).Ns b m := fun {b m} ⟨o, es, ep, e, d, r⟩ => ⟨o, es, ep, base_of e (noA e d), d, r⟩
  have nK : ∀ b o, K.lookup b = some o → H b = none := fun b o e => by
    cases q : H b with
    | none => rfl
    | some u =>
      rw [hK b u q] at e
      cases e
  have hKb : K.In (hidT s₁.heap H) := fun b o e => base_of (KX b o e) (nK b o e)
  have hM : Mod K mg (hidT s₁.heap H) := ⟨hKb, nsK hns, ⟨mb, nsK hb, hbb⟩, let ⟨mc, h1, h2⟩ := hlim; ⟨mc, nsK h1, h2⟩⟩
  have e0 : Env0 P w K mg (hidT s₁.heap H) callerA [] s₁ H := ⟨rfl, hM, fun b o e => of_hidT e, Nat.le_of_eq (hidT_size _ _), trivial, fun b hb => absurd (show b ∈ ([] : List Addr) from hb) (by simp), hok, .of_eq hg⟩
  have hl : vals.length = ps.length := by rw [wellAll_len hwl]; exact hlen
  refine codeAny_mono ((F _ hKb (nsK hns)).run callerA [] s₁ H ⟨vals, []⟩ vals (vals.map toV) _ _ hr e0 (hbind s₁ vals hl) hV (hsp H _ hO hS)) fun r s' x => ?_
  cases r with
  | error e => exact (hCX H e s' x).elim
  | ok fl =>
    cases fl with
    | next => exact False.elim x
    | brk => exact False.elim x
    | cont => exact False.elim x
    | ret u =>
      obtain ⟨v, H', os, bare, un, hok', r', q⟩ := x
      have kept : ∀ b o, s₁.heap.get? b = some o → s'.heap.get? b = some o := fun b o e => by
        cases q2 : H b with
        | none => exact un.keep b o e q2 (by intro z; exact absurd (show b ∈ ([] : List Addr) from z) (by simp)) (by simp)
        | some u2 =>
          rcases hO b with z | ⟨ob, u3, z⟩
          · rw [q2] at z
            cases z
          · have z2 := un.frzs b ob _ z
            obtain ⟨e1, _⟩ := hok b _ z
            obtain ⟨e2, _⟩ := hok' b _ z2
            rw [e] at e1
            cases e1
            exact e2
      have KX' : K.In s'.heap := fun b o e => kept b o (KX b o e)
      obtain ⟨as, hrd⟩ := Dw.reads (R := R) (cl := cl) hok' KX' d0 v u q r'
      exact ⟨u, as, rfl, hrd, OldK.of_keep kept, os, bare⟩
theorem layable_weight {ds : List WData} (h : WData.layableAll ds = true) : ∀ d ∈ ds, d.weight ≤ 1048576 := fun d hd =>
  (PySem.W.layableW_iff.mp (List.all_eq_true.mp h d hd)).2.2
theorem encAll_len : ∀ (cs : List Codec) (a : Codec.denoteAll cs), (Codec.encAll cs a).length = cs.length
  | [], _ => rfl
  | c :: cs, a => by
    show (Codec.encAll cs a.2).length + 1 = cs.length + 1
    rw [encAll_len cs a.2]
/-- the goal that k_headS leaves (case hc), from the promise of the row's def: whatever the arguments that the codecs let and the row asks for, the def gives what stands for enc (f ..) -/
theorem walk_spec {r : OpenSpec} {k : Nat} {q : Program} {loose : List Str} {XP : (Str → Option Value) → Heap → Prop} {YP : World → Heap → Prop} {d : DefRec} {K : Params → PySem.W.Frag} {CX : World → CXT} {ps : List Str} {sp : World → Sp}
    (hwell : r.wellSaid = true) (hdf : d.params.defaults = []) (hlen : r.args.length = ps.length) (hr : Room k callerA)
    (hY : ∀ (w : World) (h : Heap), YP w h → (K w.params).In h)
    (F : ∀ (w : World) (mg : Str → Option Value) (fa : Addr) (h : Heap), YP w h → (K w.params).In h → h.Ns mainGlobals mg → mg d.name = some (.ref fa) →
      ∃ fd : FuncData, (∀ (s : Shared) (us : List Value), us.length = ps.length → BindsTo s fd ⟨us, []⟩ (ps.zip us)) ∧
        ∀ base : Heap, (K w.params).In base → base.Ns mainGlobals mg → FnOk r.prog w (K w.params) mg base (CX w) k fa fd ps (sp w))
    (hsp : ∀ (w : World) (H : Hp) (xs : List V) (a : Codec.denoteAll r.args), OnlyF H → Codec.withinAll r.args a = true → Codec.app r.args r.asked a = true → DwAll (K w.params) H xs (Codec.encAll r.args a) →
      sp w xs H (fun v H' => Dw (K w.params) H' v (r.ret.enc (Codec.app r.args r.f a))) fun _ _ _ => False)
    (hCX : ∀ (w : World) (H : Hp) (s : Shared) (e : Value) (s' : Shared), CX w [] H s (fun _ _ _ => False) e s' → False) :
    PySem.W.WalkOS q loose XP YP r d [] (fun f vs => PySem.call f vs) := by
  intro w s_0 s₁ mg mb G Y fa o pm cd doc dV kV ho hd hcd hD hmg hg args vals as hpre hlay hrd hwl hlo
  obtain ⟨a, e1, e2⟩ := PySem.W.os_pre_some hpre
  obtain ⟨e3, hwi⟩ := Codec.encAll_of_decAll r.args args a e1
  subst e3
  have KX := hY w _ Y
  obtain ⟨fd, hb, hF⟩ := F w mg fa _ Y KX G.T.g hmg
  refine PySem.W.enter_call (codeAny_mono (spec_call (R := []) (cl := classAt s_0.heap) (d0 := r.ret.enc (Codec.app r.args r.f a)) KX G.T.g G.T.b G.T.builtins G.T.nolimit hg hwl (pl_encAll _ _) (layable_weight hlay) hr hF hb (by rw [encAll_len]; exact hlen)
    (fun H xs hO hS => hsp w H xs a hO hwi e2 hS) fun H e s' => hCX w H s₁ e s') fun r' s' hq => ?_)
  obtain ⟨u, as', rfl, h1, h2, h3, h4⟩ := hq
  exact ⟨.inl ⟨u, _, as', rfl, fun _ => rfl, h1, (OpenSpec.post_iff hwell hwi _ _).mpr rfl, fun z => Bool.noConfusion (show false = true from z)⟩, h2, h3, h4⟩
/-- the same where the promise hangs on the written part alone -/
theorem walk_specK {r : OpenSpec} {k : Nat} {q : Program} {loose : List Str} {XP : (Str → Option Value) → Heap → Prop} {YP : World → Heap → Prop} {d : DefRec} {K : Params → PySem.W.Frag} {CX : CXT} {ps : List Str} {sp : PySem.W.Frag → Sp}
    (hwell : r.wellSaid = true) (hdf : d.params.defaults = []) (hlen : r.args.length = ps.length) (hr : Room k callerA)
    (hY : ∀ (w : World) (h : Heap), YP w h → (K w.params).In h)
    (F : ∀ (w : World) (mg : Str → Option Value) (fa : Addr) (h : Heap), YP w h → (K w.params).In h → h.Ns mainGlobals mg → mg d.name = some (.ref fa) →
      ∃ fd : FuncData, (∀ (s : Shared) (us : List Value), us.length = ps.length → BindsTo s fd ⟨us, []⟩ (ps.zip us)) ∧
        ∀ base : Heap, (K w.params).In base → base.Ns mainGlobals mg → FnOk r.prog w (K w.params) mg base CX k fa fd ps (sp (K w.params)))
    (hsp : ∀ (K : PySem.W.Frag) (H : Hp) (xs : List V) (a : Codec.denoteAll r.args), OnlyF H → Codec.withinAll r.args a = true → Codec.app r.args r.asked a = true → DwAll K H xs (Codec.encAll r.args a) →
      sp K xs H (fun v H' => Dw K H' v (r.ret.enc (Codec.app r.args r.f a))) fun _ _ _ => False)
    (hCX : ∀ (H : Hp) (s : Shared) (e : Value) (s' : Shared), CX [] H s (fun _ _ _ => False) e s' → False) :
    PySem.W.WalkOS q loose XP YP r d [] (fun f vs => PySem.call f vs) :=
  walk_spec (K := K) (CX := fun _ => CX) (sp := fun w => sp (K w.params)) hwell hdf hlen hr hY F (fun w H xs a h1 h2 h3 h4 => hsp (K w.params) H xs a h1 h2 h3 h4) fun _ H s e s' => hCX H s e s'
end L2
end
namespace L2
open PySem PySem.Spec PyProof.Rows
/-- the j-th statement of a class's body -/
def inClass (s : Stmt) (j : Nat) : Stmt := match s with
  | .ClassDef _ _ _ body _ _ _ _ _ _ _ => body.getD j (.Pass ⟨0, 0, 0, 0⟩)
  | _ => .Pass ⟨0, 0, 0, 0⟩
def defArgs (s : Stmt) : Arguments := match s with
  | .FunctionDef _ a _ _ _ _ _ _ _ _ => a
  | _ => { posonlyargs := [], args := [], vararg := none, kwonlyargs := [], kw_defaults := [], kwarg := none, defaults := [] }
def defBody (s : Stmt) : List Stmt := match s with
  | .FunctionDef _ _ b _ _ _ _ _ _ _ => b
  | _ => []
def defScope (s : Stmt) : Scope := match s with
  | .FunctionDef _ _ _ _ _ _ sc _ _ _ => sc
  | _ => { kind := .function, names := [], isGenerator := false, isCoroutine := false }
abbrev CX0 : CXT := fun _ _ _ _ _ _ => False
abbrev E0 : XK := fun _ _ _ => False
theorem pass0 {X : Cx} : Passes CX0 X E0 := fun _ _ _ _ _ _ _ h => h.elim
structure Fun (K : PySem.W.Frag) (x qual : Str) (st : Stmt) (f : Addr) (fd : FuncData) : Prop where
  ex : ∃ (oc : Value) (od : Option Addr) (kV doc pm : Value) (an : Option Addr) (cdv ct : Value) (osl : Array (Option Value)),
    fd = PySem.W.fnOf x qual (defArgs st) (defBody st) (defScope st) .none kV doc pm an cdv ct ∧ K.lookup f = some ⟨oc, od, .func fd, osl⟩ ∧ PySem.W.codeIn K cdv qual = true
  kp : PySem.W.keepIn K (.ref f) = true
section
variable {P : Program} {w : World} {K : PySem.W.Frag} {mg : Str → Option Value} {base : Heap}
/-- THE RULE for a def: its body as a term of rules, and the reading of that term -/
theorem Fun.ok {x qual : Str} {st : Stmt} {f : Addr} {fd : FuncData} {N ps : List Str} {k : Nat} {sp : Sp} (F : Fun K x qual st f fd) (S : FnScope N ps (defScope st)) (len : ∀ vs H Q E, sp vs H Q E → vs.length = ps.length)
    (hbody : ∀ (cdv : Value) (A : Around) (outer : List Env) (s : Shared) (H : Hp) (vs : List V) (Q : VK) (E : XK), Room k (A.deeper (envOfC qual (defScope st) s.heap.objs.size f cdv)) → sp vs H Q E →
      ∃ t, PSs (cxOf CX0 P w K mg base N qual (defScope st) f cdv A outer s H E).nox (defBody st) t ∧ t { nx := fun _ H' => Q .non H', rt := Q } (start N vs) H) : FnOk P w K mg base CX0 (k + 1) f fd ps sp := by
  obtain ⟨oc, od, kV, doc, pm, an, cdv, ct, osl, rfl, lk, hcd⟩ := F.ex
  refine fn_of lk hcd S len fun A outer s H vs Q E hr hsp => ?_
  obtain ⟨t, h, q⟩ := hbody cdv A outer s H vs Q E hr hsp
  exact ⟨t, h.nox, q⟩
/-- how its arguments bind (no defaults): h is «fun _ _ _ _ _ _ us hl => match us, hl with | [_, _], _ => rfl», one _ a parameter -/
theorem Fun.binds {x qual : Str} {st : Stmt} {f : Addr} {fd : FuncData} {ps : List Str} (F : Fun K x qual st f fd)
    (h : ∀ (kV doc pm : Value) (an : Option Addr) (cdv ct : Value) (us : List Value), us.length = ps.length → bindArgs (PySem.W.fnOf x qual (defArgs st) (defBody st) (defScope st) .none kV doc pm an cdv ct) ⟨us, []⟩ = pure (ps.zip us)) : Binds K fd ps [] := by
  obtain ⟨oc, od, kV, doc, pm, an, cdv, ct, osl, rfl, lk, hcd⟩ := F.ex
  exact .all (h kV doc pm an cdv ct)
theorem fun_mk {x qual : Str} {st : Stmt} {f : Addr} {oc : Value} {od an : Option Addr} {osl : Array (Option Value)} {kV doc pm cdv ct : Value} (l : K.lookup f = some ⟨oc, od, .func (PySem.W.fnOf x qual (defArgs st) (defBody st) (defScope st) .none kV doc pm an cdv ct), osl⟩)
    (c : PySem.W.codeIn K cdv qual = true) (k : PySem.W.keepIn K (.ref f) = true) : Fun K x qual st f (PySem.W.fnOf x qual (defArgs st) (defBody st) (defScope st) .none kV doc pm an cdv ct) := ⟨⟨oc, od, kV, doc, pm, an, cdv, ct, osl, rfl, l, c⟩, k⟩
end
theorem hu_of {A : Around} {k : Nat} (hr : Room k A) : A.units + 1 < cLine := Nat.lt_of_le_of_lt (Nat.add_le_add_left (by decide : 1 ≤ 64) _) hr.units
section
variable {X : Cx}
theorem pv (i : Nat) {x : Str} {pos : Pos} (hN : X.N[i]? = some x := by rfl) (hv : Vis X.env.scope x := by first | exact Or.inl rfl | exact Or.inr (Or.inl rfl) | exact Or.inr (Or.inr rfl)) (hd : (x == ("__debug__" : Str)) = false := by decide)
    (hcd : (x == ("__classdict__" : Str)) = false := by decide) : PE X (.Name x pos) (tVar i) := pe_var hN hv hd hcd
/-- len of a dict -/
theorem call_lenD : CallR X (.builtin "len") (fun xs H Q => ∃ a kvs, xs = [V.ref a] ∧ H a = some (.dK kvs) ∧ Q (.int kvs.length) H) := by
  intro pins s σ H xs us Q I r h
  obtain ⟨a, kvs, rfl, ha, q⟩ := h
  obtain ⟨u, rfl, ru⟩ := vals1 r
  cases ru
  exact d_len I (.inl ha) fun t s' I' => ⟨.int kvs.length, H, I', ⟨t, rfl⟩, q⟩
end
theorem iteF {A B : Prop} (h : B) : if false = true then A else B := by
  rw [if_neg Bool.false_ne_true]
  exact h
theorem iteT {A B : Prop} (h : A) : if true = true then A else B := by
  rw [if_pos rfl]
  exact h
theorem ite2 {c A B : Prop} [Decidable c] (h1 : c → A) (h2 : ¬ c → B) : if c then A else B := by
  by_cases h : c
  · rw [if_pos h]
    exact h1 h
  · rw [if_neg h]
    exact h2 h
/-- all that was tracked is as it was -/
def Same (H H' : Hp) : Prop := ∀ b o, H b = some o → H' b = some o
theorem Same.refl (H : Hp) : Same H H := fun _ _ h => h
theorem Same.trans {H H1 H2 : Hp} (a : Same H H1) (b : Same H1 H2) : Same H H2 := fun c o h => b c o (a c o h)
theorem Same.free {H H' : Hp} (e : Same H H') {l : Addr} (h : H' l = Option.none) : H l = Option.none := by
  cases q : H l with
  | none => rfl
  | some o =>
    rw [e l o q] at h
    cases h
theorem Same.seq {K : PySem.W.Frag} {H H' : Hp} {a : Addr} {xs : List V} (e : Same H H') (h : SqL K H a xs) : SqL K H' a xs := by
  rcases h with (h | ⟨o, h⟩) | h
  · exact .inl (.inl (e _ _ h))
  · exact .inl (.inr ⟨o, e _ _ h⟩)
  · exact .inr h
section
variable {κ : Type} [DecidableEq κ]
theorem valV_not {kvs : List (κ × V)} {k : κ} (h : valV kvs k = none) : ¬ k ∈ kvs.map (·.1) := by
  intro m
  obtain ⟨p, hp, e⟩ := List.mem_map.mp m
  have q : (kvs.any fun kv => decide (kv.1 = k)) = true := List.any_eq_true.mpr ⟨p, hp, decide_eq_true e⟩
  rw [valV_any, h] at q
  exact absurd q (by simp)
theorem valV_in {kvs : List (κ × V)} {k : κ} {v : V} (h : valV kvs k = some v) : k ∈ kvs.map (·.1) := by
  have q : (kvs.any fun kv => decide (kv.1 = k)) = true := by
    rw [valV_any, h]
    all_goals rfl
  obtain ⟨p, hp, e⟩ := List.any_eq_true.mp q
  exact List.mem_map.mpr ⟨p, hp, of_decide_eq_true e⟩
theorem nd_snoc : ∀ {l : List κ} {k : κ}, l.Nodup → ¬ k ∈ l → (l ++ [k]).Nodup
  | [], k, _, _ => by simp
  | a :: r, k, h, hk => by
    obtain ⟨h1, h2⟩ := List.nodup_cons.mp h
    show (a :: (r ++ [k])).Nodup
    refine List.nodup_cons.mpr ⟨fun m => ?_, nd_snoc h2 fun m => hk (List.mem_cons.mpr (Or.inr m))⟩
    rcases List.mem_append.mp m with q | q
    · exact h1 q
    · exact hk (List.mem_cons.mpr (Or.inl (List.mem_singleton.mp q).symm))
theorem nd_putK {kvs : List (κ × V)} {k : κ} (v : V) (hn : (kvs.map (·.1)).Nodup) (h : valV kvs k = none) : ((putK kvs k v).map (·.1)).Nodup := by
  rw [putK_new v h, List.map_append]
  exact nd_snoc hn (valV_not h)
theorem dropK_pos {p : κ × V} {r : List (κ × V)} {k : κ} (e : p.1 = k) : dropK (p :: r) k = dropK r k := by
  unfold dropK
  rw [List.filter_cons, if_neg (by simp [e])]
theorem dropK_neg {p : κ × V} {r : List (κ × V)} {k : κ} (e : ¬ p.1 = k) : dropK (p :: r) k = p :: dropK r k := by
  unfold dropK
  rw [List.filter_cons, if_pos (by simp [e])]
theorem dropK_no : ∀ {kvs : List (κ × V)} {k : κ}, ¬ k ∈ kvs.map (·.1) → dropK kvs k = kvs
  | [], _, _ => rfl
  | p :: r, k, h => by
    have h' : ¬ k ∈ r.map (·.1) := fun m => by
      obtain ⟨q, hq, e⟩ := List.mem_map.mp m
      exact h (List.mem_map.mpr ⟨q, List.mem_cons.mpr (Or.inr hq), e⟩)
    rw [dropK_neg fun e => h (List.mem_map.mpr ⟨p, List.mem_cons.mpr (Or.inl rfl), e⟩), dropK_no h']
theorem dropK_mem {kvs : List (κ × V)} {k : κ} {p : κ × V} (h : p ∈ dropK kvs k) : p ∈ kvs := (List.mem_filter.mp h).1
theorem nd_dropK : ∀ {kvs : List (κ × V)} {k : κ}, (kvs.map (·.1)).Nodup → ((dropK kvs k).map (·.1)).Nodup
  | [], _, _ => List.nodup_nil
  | p :: r, k, h => by
    have h : (p.1 :: r.map (·.1)).Nodup := h
    obtain ⟨h1, h2⟩ := List.nodup_cons.mp h
    by_cases e : p.1 = k
    · rw [dropK_pos e]
      exact nd_dropK h2
    · rw [dropK_neg e]
      show (p.1 :: (dropK r k).map (·.1)).Nodup
      refine List.nodup_cons.mpr ⟨fun m => h1 ?_, nd_dropK h2⟩
      obtain ⟨q, hq, eq⟩ := List.mem_map.mp m
      exact List.mem_map.mpr ⟨q, dropK_mem hq, eq⟩
theorem dropK_len : ∀ {kvs : List (κ × V)} {k : κ}, (kvs.map (·.1)).Nodup → k ∈ kvs.map (·.1) → (dropK kvs k).length + 1 = kvs.length
  | [], _, _, m => by simp at m
  | p :: r, k, h, m => by
    have h : (p.1 :: r.map (·.1)).Nodup := h
    have m : k = p.1 ∨ k ∈ r.map (·.1) := List.mem_cons.mp m
    obtain ⟨h1, h2⟩ := List.nodup_cons.mp h
    by_cases e : p.1 = k
    · subst e
      rw [dropK_pos rfl, dropK_no h1]
      all_goals rfl
    · have m' : k ∈ r.map (·.1) := m.resolve_left fun z => e z.symm
      have q := dropK_len h2 m'
      rw [dropK_neg e, List.length_cons, List.length_cons]
      omega
end
theorem at_of {xs : List V} {z : Int} {j : Nat} {v : V} (e : z = (j : Int)) (h : xs[j]? = some v) : atI xs z = some v := by
  rw [e]
  exact atI_nat h
/-- a new instance and its __init__ leave all that was tracked as it was -/
theorem Same.made {H H1 : Hp} {x dx C : Addr} (nx : H x = Option.none) (nd : H dx = Option.none) (k : ∀ b o, (upd (upd H dx (.own x)) x (.ins C dx [])) b = some o → b ≠ x → H1 b = some o) : Same H H1 := fun b o e =>
  k b o (by rw [upd_ne (ne_of_none e nx), upd_ne (ne_of_none e nd)]; exact e) (ne_of_none e nx)
end L2
section
set_option linter.all false
/-! The specification's state seen as four rows of spots: one way of putting, taking off, changing for all four. -/
namespace WM
open Vbdead

/-! ### putting into a row by a test -/
section
variable {α β : Type}
/-- behind the longest beginning that passes the test -/
def ins (p : α → Bool) (x : α) (l : List α) : List α := l.takeWhile p ++ x :: l.dropWhile p
theorem ins_nil (p : α → Bool) (x : α) : ins p x [] = [x] := rfl
theorem ins_cons_t {p : α → Bool} {x y : α} {l : List α} (h : p y = true) : ins p x (y :: l) = y :: ins p x l := by
  simp [ins, List.takeWhile_cons, List.dropWhile_cons, h]
theorem ins_cons_f {p : α → Bool} {x y : α} {l : List α} (h : p y = false) : ins p x (y :: l) = x :: y :: l := by
  simp [ins, List.takeWhile_cons, List.dropWhile_cons, h]
theorem mem_ins {p : α → Bool} {x y : α} : ∀ {l : List α}, y ∈ ins p x l ↔ y = x ∨ y ∈ l
  | [] => by simp [ins_nil]
  | z :: l => by
    cases h : p z
    · rw [ins_cons_f h]; simp
    · rw [ins_cons_t h, List.mem_cons, mem_ins, List.mem_cons]
      constructor
      · rintro (a | a | a)
        · exact .inr (.inl a)
        · exact .inl a
        · exact .inr (.inr a)
      · rintro (a | a | a)
        · exact .inr (.inl a)
        · exact .inl a
        · exact .inr (.inr a)
theorem perm_ins {p : α → Bool} {x : α} : ∀ {l : List α}, (ins p x l).Perm (x :: l)
  | [] => List.Perm.refl _
  | z :: l => by
    cases h : p z
    · rw [ins_cons_f h]
    · rw [ins_cons_t h]; exact (List.Perm.cons z perm_ins).trans (List.Perm.swap x z l)
theorem len_ins {p : α → Bool} {x : α} {l : List α} : (ins p x l).length = l.length + 1 := by
  rw [perm_ins.length_eq]; rfl
theorem map_ins {f : α → β} {p : α → Bool} {q : β → Bool} {x : α} : ∀ {l : List α}, (∀ y ∈ l, q (f y) = p y) → (ins p x l).map f = ins q (f x) (l.map f)
  | [], _ => rfl
  | z :: l, h => by
    have hz := h z (List.mem_cons_self ..)
    cases e : p z
    · rw [ins_cons_f e, List.map_cons, List.map_cons, ins_cons_f (by rw [hz]; exact e)]
    · rw [ins_cons_t e, List.map_cons, List.map_cons, ins_cons_t (by rw [hz]; exact e), map_ins fun y hy => h y (List.mem_cons_of_mem _ hy)]
theorem ins_congr {p q : α → Bool} {x : α} {l : List α} (h : ∀ y ∈ l, q y = p y) : ins p x l = ins q x l := by
  have := map_ins (f := id) (q := q) (x := x) h
  simpa using this
/-- the place: how many it goes behind -/
theorem ins_eq_place {p : α → Bool} {x : α} {l : List α} : ins p x l = l.take (l.takeWhile p).length ++ x :: l.drop (l.takeWhile p).length := by
  have h : ∀ a b : List α, (a ++ b).take a.length = a ∧ (a ++ b).drop a.length = b := fun a b => by simp
  have e := h (l.takeWhile p) (l.dropWhile p)
  rw [List.takeWhile_append_dropWhile] at e
  rw [e.1, e.2]; rfl
/-- sorted by a key, put behind the lesser or equal ones: sorted -/
theorem sorted_ins {k : α → Int} {p : α → Bool} {x : α} : ∀ {l : List α}, (∀ y ∈ l, p y = true → k y ≤ k x) → (∀ y ∈ l, p y = false → k x ≤ k y) →
    l.Pairwise (fun a b => k a ≤ k b) → (ins p x l).Pairwise (fun a b => k a ≤ k b)
  | [], _, _, _ => by rw [ins_nil]; simp
  | z :: l, h1, h2, s => by
    rw [List.pairwise_cons] at s
    cases e : p z
    · rw [ins_cons_f e, List.pairwise_cons, List.pairwise_cons]
      have hz := h2 z (List.mem_cons_self ..) e
      refine ⟨fun b hb => ?_, s⟩
      rcases List.mem_cons.mp hb with rfl | hb
      · exact hz
      · exact Int.le_trans hz (s.1 b hb)
    · rw [ins_cons_t e, List.pairwise_cons]
      refine ⟨fun b hb => ?_, sorted_ins (fun y hy => h1 y (List.mem_cons_of_mem _ hy)) (fun y hy => h2 y (List.mem_cons_of_mem _ hy)) s.2⟩
      rcases mem_ins.mp hb with rfl | hb
      · exact h1 z (List.mem_cons_self ..) e
      · exact s.1 b hb
end

/-! ### spots -/
abbrev sid (s : Spot) : Nat := s.item.id
abbrev sidI (s : Spot) : Int := (s.item.id : Int)
def sw : Spot → Nat
  | .current _ => 0
  | .future _ _ => 1
  | .frozen _ _ => 2
  | .asleep _ => 3
/-- what its chain is in order of -/
def skey : Spot → Int
  | .current x => -x.prio
  | .future t _ => t
  | .frozen _ x => x.id
  | .asleep x => x.id
def fut (x : Nat × Item) : Spot := .future x.1 x.2
def frz (x : Nat × Item) : Spot := .frozen x.1 x.2
/-- chain w -/
def sp (c : Cal) : Nat → List Spot
  | 0 => c.current.map .current
  | 1 => c.future.map fut
  | 2 => c.frozen.map frz
  | 3 => c.asleep.map .asleep
  | _ => []
def spAll (c : Cal) : List Spot := sp c 0 ++ (sp c 1 ++ (sp c 2 ++ sp c 3))
theorem sw_lt (s : Spot) : sw s < 4 := by cases s <;> (simp only [sw]; decide)
theorem mem_sp_w {c : Cal} {s : Spot} {w : Nat} (h : s ∈ sp c w) : sw s = w := by
  match w, h with
  | 0, h => obtain ⟨_, _, rfl⟩ := List.mem_map.mp h; rfl
  | 1, h => obtain ⟨_, _, rfl⟩ := List.mem_map.mp h; rfl
  | 2, h => obtain ⟨_, _, rfl⟩ := List.mem_map.mp h; rfl
  | 3, h => obtain ⟨_, _, rfl⟩ := List.mem_map.mp h; rfl
  | _ + 4, h => cases h
theorem mem_all {c : Cal} {s : Spot} : s ∈ spAll c ↔ s ∈ sp c (sw s) := by
  constructor
  · intro h
    simp only [spAll, List.mem_append] at h
    rcases h with h | h | h | h <;> (rw [mem_sp_w h]; exact h)
  · intro h
    simp only [spAll, List.mem_append]
    cases s with
    | current x => exact .inl h
    | future t x => exact .inr (.inl h)
    | frozen t x => exact .inr (.inr (.inl h))
    | asleep x => exact .inr (.inr (.inr h))
theorem mem_all_of {c : Cal} {s : Spot} {w : Nat} (h : s ∈ sp c w) : s ∈ spAll c := mem_all.mpr (by rw [mem_sp_w h]; exact h)
theorem size_eq (c : Cal) : c.size = (spAll c).length := by simp [Cal.size, spAll, sp]; omega
theorem ids_eq (c : Cal) : c.ids = (spAll c).map sid := by
  simp only [Cal.ids, spAll, sp, List.map_append, List.map_map]; rfl
/-- a calendar of rows -/
theorem cal_ext {a b : Cal} (h : a.clock = b.clock) (e : ∀ w, w < 4 → sp a w = sp b w) : a = b := by
  cases a with | mk k c f z l => cases b with | mk k' c' f' z' l' =>
  have h : k = k' := h
  have e0 := e 0 (by decide)
  have e1 := e 1 (by decide)
  have e2 := e 2 (by decide)
  have e3 := e 3 (by decide)
  have i0 : c = c' := (List.map_inj_right (f := Spot.current) (fun _ _ q => Spot.current.inj q)).mp e0
  have i1 : f = f' := (List.map_inj_right (f := fut) (fun x y q => by cases x; cases y; injection q with q1 q2; subst q1 q2; rfl)).mp e1
  have i2 : z = z' := (List.map_inj_right (f := frz) (fun x y q => by cases x; cases y; injection q with q1 q2; subst q1 q2; rfl)).mp e2
  have i3 : l = l' := (List.map_inj_right (f := Spot.asleep) (fun _ _ q => Spot.asleep.inj q)).mp e3
  subst h i0 i1 i2 i3; rfl

/-! ### where a thing is -/
theorem find_map' {α β : Type} (f : α → β) (p : β → Bool) : ∀ l : List α, (l.map f).find? p = (l.find? fun x => p (f x)).map f
  | [] => rfl
  | x :: l => by
    cases h : p (f x)
    · rw [List.map_cons, List.find?_cons_of_neg (by rw [h]; decide), List.find?_cons_of_neg (by rw [h]; decide)]; exact find_map' f p l
    · rw [List.map_cons, List.find?_cons_of_pos h, List.find?_cons_of_pos (p := fun x => p (f x)) h]; rfl
theorem spot_eq (c : Cal) (id : Int) : c.spot id = (spAll c).find? fun s => sidI s == id := by
  simp only [spAll, List.find?_append, sp, find_map']
  have a0 : (c.current.find? fun x => sidI (Spot.current x) == id) = findItem id c.current := rfl
  have a1 : (c.future.find? fun x => sidI (fut x) == id) = findTimed id c.future := rfl
  have a2 : (c.frozen.find? fun x => sidI (frz x) == id) = findTimed id c.frozen := rfl
  have a3 : (c.asleep.find? fun x => sidI (Spot.asleep x) == id) = findItem id c.asleep := rfl
  rw [a0, a1, a2, a3]
  unfold Cal.spot
  cases findItem id c.current with
  | some x => rfl
  | none =>
    cases findTimed id c.future with
    | some x => rfl
    | none =>
      cases findTimed id c.frozen with
      | some x => rfl
      | none => cases findItem id c.asleep <;> rfl
theorem spot_some_mem {c : Cal} {id : Int} {s : Spot} (h : c.spot id = some s) : s ∈ spAll c ∧ sidI s = id := by
  rw [spot_eq] at h
  exact ⟨List.mem_of_find?_eq_some h, by simpa using List.find?_some h⟩
theorem spot_none {c : Cal} {id : Int} : c.spot id = none ↔ ∀ s ∈ spAll c, sidI s ≠ id := by
  rw [spot_eq, List.find?_eq_none]
  constructor
  · intro h s hs e; exact h s hs (by simpa using e)
  · intro h s hs e; exact h s hs (by simpa using e)
abbrev NdIds (c : Cal) : Prop := ((spAll c).map sid).Nodup
theorem nodup_find {id : Int} : ∀ {l : List Spot} {s : Spot}, (l.map sid).Nodup → s ∈ l → sidI s = id → (l.find? fun s => sidI s == id) = some s
  | [], _, _, h, _ => by cases h
  | x :: l, s, nd, h, e => by
    rw [List.map_cons, List.nodup_cons] at nd
    rcases List.mem_cons.mp h with rfl | h
    · exact List.find?_cons_of_pos (by simpa using e)
    · have hx : ¬ (sidI x == id) = true := fun q => by
        have q : sidI x = id := by simpa using q
        have : sid x = sid s := by have := q.trans e.symm; exact Int.ofNat.inj this
        exact nd.1 (by rw [this]; exact List.mem_map_of_mem (f := sid) h)
      rw [List.find?_cons_of_neg (p := fun s => sidI s == id) hx]
      exact nodup_find nd.2 h e
theorem spot_of_mem {c : Cal} {s : Spot} (nd : NdIds c) (h : s ∈ spAll c) : c.spot (sidI s) = some s := by
  rw [spot_eq]; exact nodup_find nd h rfl
theorem spot_iff {c : Cal} {s : Spot} {id : Int} (nd : NdIds c) : c.spot id = some s ↔ s ∈ spAll c ∧ sidI s = id :=
  ⟨spot_some_mem, fun h => by rw [← h.2]; exact spot_of_mem nd h.1⟩

/-! ### taking off, putting, changing: row by row -/
def keepB (id : Nat) (s : Spot) : Bool := sid s != id
theorem sp_without (c : Cal) (id : Nat) (w : Nat) : sp (c.without id) w = (sp c w).filter (keepB id) := by
  match w with
  | 0 => simp only [sp, Cal.without, List.filter_map]; rfl
  | 1 => simp only [sp, Cal.without, List.filter_map]; rfl
  | 2 => simp only [sp, Cal.without, List.filter_map]; rfl
  | 3 => simp only [sp, Cal.without, List.filter_map]; rfl
  | _ + 4 => rfl
theorem all_without (c : Cal) (id : Nat) : spAll (c.without id) = (spAll c).filter (keepB id) := by
  simp only [spAll, sp_without, List.filter_append]
theorem clock_without (c : Cal) (id : Nat) : (c.without id).clock = c.clock := rfl
/-- behind its equals, whichever the chain -/
def put (c : Cal) : Spot → Cal
  | .current x => c.onCurrent x
  | .future t x => c.onFuture t x
  | .frozen t x => c.onFrozen t x
  | .asleep x => c.onAsleep x
def behindB (s y : Spot) : Bool := decide (skey y ≤ skey s)
def frontB (s y : Spot) : Bool := decide (skey y < skey s)
theorem clock_put (c : Cal) (s : Spot) : (put c s).clock = c.clock := by cases s <;> rfl
theorem ins_of_rec {α : Type} {f : α → List α → List α} {x : α} {p : α → Bool} (h0 : f x [] = [x]) (h1 : ∀ y r, f x (y :: r) = if p y = true then y :: f x r else x :: y :: r) : ∀ l, f x l = ins p x l
  | [] => h0
  | y :: r => by
    rw [h1]
    cases e : p y
    · rw [ins_cons_f e]; simp
    · rw [ins_cons_t e, ins_of_rec h0 h1 r]; simp
theorem putCurrent_ins (x : Item) (l : List Item) : putCurrent x l = ins (fun y => decide (x.prio ≤ y.prio)) x l :=
  ins_of_rec (f := putCurrent) rfl (fun y r => by simp [putCurrent]) l
theorem headCurrent_ins (x : Item) (l : List Item) : headCurrent x l = ins (fun y => decide (x.prio < y.prio)) x l :=
  ins_of_rec (f := headCurrent) rfl (fun y r => by simp [headCurrent]) l
theorem putFuture_ins (t : Nat) (x : Item) (l : List (Nat × Item)) : putFuture t x l = ins (fun y => decide (y.1 ≤ t)) (t, x) l :=
  ins_of_rec (f := fun z => putFuture z.1 z.2) (x := (t, x)) rfl (fun y r => by simp [putFuture]) l
theorem headFuture_ins (t : Nat) (x : Item) (l : List (Nat × Item)) : headFuture t x l = ins (fun y => decide (y.1 < t)) (t, x) l :=
  ins_of_rec (f := fun z => headFuture z.1 z.2) (x := (t, x)) rfl (fun y r => by simp [headFuture]) l
theorem putFrozen_ins (t : Nat) (x : Item) (l : List (Nat × Item)) : putFrozen t x l = ins (fun y => decide (y.2.id < x.id)) (t, x) l :=
  ins_of_rec (f := fun z => putFrozen z.1 z.2) (x := (t, x)) rfl (fun y r => by simp [putFrozen]) l
theorem putAsleep_ins (x : Item) (l : List Item) : putAsleep x l = ins (fun y => decide (y.id < x.id)) x l :=
  ins_of_rec (f := putAsleep) rfl (fun y r => by simp [putAsleep]) l
theorem dec_eq {a b : Prop} [Decidable a] [Decidable b] (h : a ↔ b) : decide a = decide b := by
  by_cases e : a
  · rw [decide_eq_true e, decide_eq_true (h.mp e)]
  · rw [decide_eq_false e, decide_eq_false (fun q => e (h.mpr q))]
theorem sp_put_same {c : Cal} {s : Spot} (new : ∀ y ∈ sp c (sw s), sid y ≠ sid s) : sp (put c s) (sw s) = ins (behindB s) s (sp c (sw s)) := by
  cases s with
  | current x =>
    show (putCurrent x c.current).map Spot.current = ins _ _ (c.current.map Spot.current)
    rw [putCurrent_ins]
    exact map_ins fun y _ => dec_eq (by show -y.prio ≤ -x.prio ↔ x.prio ≤ y.prio; omega)
  | future t x =>
    show (putFuture t x c.future).map fut = ins _ _ (c.future.map fut)
    rw [putFuture_ins]
    exact map_ins fun y _ => dec_eq (by show (y.1 : Int) ≤ (t : Int) ↔ y.1 ≤ t; omega)
  | frozen t x =>
    show (putFrozen t x c.frozen).map frz = ins _ _ (c.frozen.map frz)
    rw [putFrozen_ins]
    refine map_ins fun y hy => dec_eq ?_
    have h : y.2.id ≠ x.id := new (frz y) (List.mem_map_of_mem (f := frz) hy)
    show (y.2.id : Int) ≤ (x.id : Int) ↔ y.2.id < x.id
    omega
  | asleep x =>
    show (putAsleep x c.asleep).map Spot.asleep = ins _ _ (c.asleep.map Spot.asleep)
    rw [putAsleep_ins]
    refine map_ins fun y hy => dec_eq ?_
    have h : y.id ≠ x.id := new (Spot.asleep y) (List.mem_map_of_mem (f := Spot.asleep) hy)
    show (y.id : Int) ≤ (x.id : Int) ↔ y.id < x.id
    omega
theorem sp_put_other {c : Cal} {s : Spot} {w : Nat} (h : w ≠ sw s) : sp (put c s) w = sp c w := by
  match w with
  | 0 => cases s <;> first | rfl | exact absurd rfl h
  | 1 => cases s <;> first | rfl | exact absurd rfl h
  | 2 => cases s <;> first | rfl | exact absurd rfl h
  | 3 => cases s <;> first | rfl | exact absurd rfl h
  | _ + 4 => rfl
theorem mem_all_put {c : Cal} {s y : Spot} (new : ∀ y ∈ sp c (sw s), sid y ≠ sid s) : y ∈ spAll (put c s) ↔ y = s ∨ y ∈ spAll c := by
  rw [mem_all, mem_all]
  by_cases e : sw y = sw s
  · rw [e, sp_put_same new, mem_ins]
  · rw [sp_put_other e]
    constructor
    · exact .inr
    · rintro (rfl | h)
      · exact absurd rfl e
      · exact h
theorem perm_all_put {c : Cal} {s : Spot} (new : ∀ y ∈ sp c (sw s), sid y ≠ sid s) : (spAll (put c s)).Perm (s :: spAll c) := by
  unfold spAll
  have hp := sp_put_same new
  cases s with
  | current x =>
    rw [sp_put_other (w := 1) (by intro q; cases q), sp_put_other (w := 2) (by intro q; cases q), sp_put_other (w := 3) (by intro q; cases q)]
    have hp : sp (put c (.current x)) 0 = ins (behindB (.current x)) (.current x) (sp c 0) := hp
    rw [hp]
    exact List.Perm.append_right _ perm_ins
  | future t x =>
    rw [sp_put_other (w := 0) (by intro q; cases q), sp_put_other (w := 2) (by intro q; cases q), sp_put_other (w := 3) (by intro q; cases q)]
    have hp : sp (put c (.future t x)) 1 = ins (behindB (.future t x)) (.future t x) (sp c 1) := hp
    rw [hp]
    exact (List.Perm.append_left _ (List.Perm.append_right _ perm_ins)).trans List.perm_middle
  | frozen t x =>
    rw [sp_put_other (w := 0) (by intro q; cases q), sp_put_other (w := 1) (by intro q; cases q), sp_put_other (w := 3) (by intro q; cases q)]
    have hp : sp (put c (.frozen t x)) 2 = ins (behindB (.frozen t x)) (.frozen t x) (sp c 2) := hp
    rw [hp]
    exact (List.Perm.append_left _ ((List.Perm.append_left _ (List.Perm.append_right _ perm_ins)).trans List.perm_middle)).trans List.perm_middle
  | asleep x =>
    rw [sp_put_other (w := 0) (by intro q; cases q), sp_put_other (w := 1) (by intro q; cases q), sp_put_other (w := 2) (by intro q; cases q)]
    have hp : sp (put c (.asleep x)) 3 = ins (behindB (.asleep x)) (.asleep x) (sp c 3) := hp
    rw [hp]
    exact (List.Perm.append_left _ ((List.Perm.append_left _ ((List.Perm.append_left _ perm_ins).trans List.perm_middle)).trans List.perm_middle)).trans List.perm_middle
/-- another item at its place -/
def reItem (x : Item) : Spot → Spot
  | .current y => .current (inPlace x y)
  | .future t y => .future t (inPlace x y)
  | .frozen t y => .frozen t (inPlace x y)
  | .asleep y => .asleep (inPlace x y)
theorem sp_changed (c : Cal) (x : Item) (w : Nat) : sp (c.changed x) w = (sp c w).map (reItem x) := by
  match w with
  | 0 => simp only [sp, Cal.changed, List.map_map]; rfl
  | 1 => simp only [sp, Cal.changed, List.map_map]; rfl
  | 2 => simp only [sp, Cal.changed, List.map_map]; rfl
  | 3 => simp only [sp, Cal.changed, List.map_map]; rfl
  | _ + 4 => rfl
theorem all_changed (c : Cal) (x : Item) : spAll (c.changed x) = (spAll c).map (reItem x) := by
  simp only [spAll, sp_changed, List.map_append]
theorem sid_reItem (x : Item) (s : Spot) : sid (reItem x s) = sid s := by
  have h : ∀ y : Item, (inPlace x y).id = y.id := fun y => by
    unfold inPlace
    by_cases e : y.id = x.id
    · rw [if_pos e]; exact e.symm
    · rw [if_neg e]
  cases s <;> exact h _
theorem sw_reItem (x : Item) (s : Spot) : sw (reItem x s) = sw s := by cases s <;> rfl
end WM
end
section
set_option linter.all false
/-! What holds of a calendar at any time, as a Prop; what keeps it. -/
namespace WM
open Vbdead

def okItem (x : Item) : Prop := 1 ≤ x.id ∧ x.id ≤ 1000000000 ∧ -1000 ≤ x.prio ∧ x.prio ≤ 1000 ∧ x.held ≤ 1000
def okSpot (clk : Nat) : Spot → Prop
  | .current x => okItem x
  | .future t x => okItem x ∧ x.held = 0 ∧ clk ≤ t ∧ t ≤ clk + 10000000000000
  | .frozen t x => okItem x ∧ 1 ≤ x.held ∧ t ≤ 10000000000000
  | .asleep x => okItem x
theorem okSpot.item {k : Nat} {s : Spot} (h : okSpot k s) : okItem s.item := by
  cases s <;> first | exact h | exact h.1
structure Snd (c : Cal) : Prop where
  clk : c.clock ≤ 1000000000000000
  sz : (spAll c).length ≤ 2000
  nd : NdIds c
  ok : ∀ s ∈ spAll c, okSpot c.clock s
  ord : ∀ w, (sp c w).Pairwise (fun a b => skey a ≤ skey b)

theorem FAR_eq : FAR = 10000000000000 := by decide
theorem END_eq : END = 1000000000000000 := by decide
theorem MOST_eq : MOST = 2000 := rfl
theorem HOLDS_eq : HOLDS = 1000 := rfl

theorem itemOk_iff {x : Item} : itemOk x = true ↔ okItem x := by
  unfold itemOk prioOk HOLDS okItem
  simp only [Bool.and_eq_true, decide_eq_true_eq]
  constructor
  · rintro ⟨⟨⟨a, b⟩, c, d⟩, e⟩; exact ⟨a, b, c, d, e⟩
  · rintro ⟨a, b, c, d, e⟩; exact ⟨⟨⟨a, b⟩, c, d⟩, e⟩
theorem distinct_iff : ∀ {l : List Nat}, distinct l = true ↔ l.Nodup
  | [] => by simp [distinct]
  | a :: r => by simp [distinct, distinct_iff (l := r)]
theorem ordered_iff {α : Type} {r : α → α → Bool} (tr : ∀ a b c, r a b = true → r b c = true → r a c = true) : ∀ {l : List α}, ordered r l = true ↔ l.Pairwise (fun a b => r a b = true)
  | [] => by simp [ordered]
  | [a] => by simp [ordered]
  | a :: b :: l => by
    rw [ordered, Bool.and_eq_true, ordered_iff tr (l := b :: l), List.pairwise_cons (a := a)]
    constructor
    · rintro ⟨h1, h2⟩
      refine ⟨fun y hy => ?_, h2⟩
      rcases List.mem_cons.mp hy with rfl | hy
      · exact h1
      · exact tr _ _ _ h1 ((List.pairwise_cons.mp h2).1 y hy)
    · rintro ⟨h1, h2⟩
      exact ⟨h1 b (List.mem_cons_self ..), h2⟩
theorem pw_imp_mem {α : Type} {R S : α → α → Prop} : ∀ {l : List α}, l.Pairwise R → (∀ a ∈ l, ∀ b ∈ l, R a b → S a b) → l.Pairwise S
  | [], _, _ => List.Pairwise.nil
  | a :: l, h, f => by
    rw [List.pairwise_cons] at h ⊢
    exact ⟨fun b hb => f a (List.mem_cons_self ..) b (List.mem_cons_of_mem _ hb) (h.1 b hb), pw_imp_mem h.2 fun x hx y hy => f x (List.mem_cons_of_mem _ hx) y (List.mem_cons_of_mem _ hy)⟩
theorem nd_row {c : Cal} (h : NdIds c) (w : Nat) : ((sp c w).map sid).Nodup := by
  unfold NdIds spAll at h
  simp only [List.map_append, List.nodup_append] at h
  match w with
  | 0 => exact h.1
  | 1 => exact h.2.1.1
  | 2 => exact h.2.1.2.1.1
  | 3 => exact h.2.1.2.1.2.1
  | _ + 4 => exact List.nodup_nil
theorem lt_of_nd {l : List Spot} (nd : (l.map sid).Nodup) (h : l.Pairwise (fun a b => sidI a ≤ sidI b)) : l.Pairwise (fun a b => sidI a < sidI b) := by
  have h2 : l.Pairwise (fun a b => sid a ≠ sid b) := List.pairwise_map.mp nd
  exact (List.Pairwise.and h h2).imp fun {a b} ⟨q1, q2⟩ => by
    have q1 : (sid a : Int) ≤ (sid b : Int) := q1
    show (sid a : Int) < (sid b : Int)
    omega
theorem sound_iff {c : Cal} : sound c = true ↔ Snd c := by
  have hnd : distinct c.ids = true ↔ NdIds c := by rw [distinct_iff, ids_eq]
  have o0 : ordered (fun x y : Item => decide (y.prio ≤ x.prio)) c.current = true ↔ (sp c 0).Pairwise (fun a b => skey a ≤ skey b) := by
    rw [ordered_iff (fun a b c h1 h2 => by simp only [decide_eq_true_eq] at *; omega)]
    show _ ↔ (c.current.map Spot.current).Pairwise _
    rw [List.pairwise_map]
    constructor
    · exact fun h => h.imp fun {a b} q => by have q : b.prio ≤ a.prio := by simpa using q
                                             show -a.prio ≤ -b.prio; omega
    · exact fun h => h.imp fun {a b} q => by have q : -a.prio ≤ -b.prio := q
                                             simp only [decide_eq_true_eq]; omega
  have o1 : ordered (fun x y : Nat × Item => decide (x.1 ≤ y.1)) c.future = true ↔ (sp c 1).Pairwise (fun a b => skey a ≤ skey b) := by
    rw [ordered_iff (fun a b c h1 h2 => by simp only [decide_eq_true_eq] at *; omega)]
    show _ ↔ (c.future.map fut).Pairwise _
    rw [List.pairwise_map]
    constructor
    · exact fun h => h.imp fun {a b} q => by have q : a.1 ≤ b.1 := by simpa using q
                                             show (a.1 : Int) ≤ (b.1 : Int); omega
    · exact fun h => h.imp fun {a b} q => by have q : (a.1 : Int) ≤ (b.1 : Int) := q
                                             simp only [decide_eq_true_eq]; omega
  have o2 : NdIds c → (ordered (fun x y : Nat × Item => decide (x.2.id < y.2.id)) c.frozen = true ↔ (sp c 2).Pairwise (fun a b => skey a ≤ skey b)) := fun nd => by
    rw [ordered_iff (fun a b c h1 h2 => by simp only [decide_eq_true_eq] at *; omega)]
    constructor
    · intro h
      show (c.frozen.map frz).Pairwise _
      rw [List.pairwise_map]
      exact h.imp fun {a b} q => by have q : a.2.id < b.2.id := by simpa using q
                                    show (a.2.id : Int) ≤ (b.2.id : Int); omega
    · intro h
      have h1 := lt_of_nd (nd_row nd 2) (pw_imp_mem h fun a ha b hb q => by
        obtain ⟨x, _, rfl⟩ := List.mem_map.mp ha
        obtain ⟨y, _, rfl⟩ := List.mem_map.mp hb
        exact q)
      have h1' : (c.frozen.map frz).Pairwise (fun a b => sidI a < sidI b) := h1
      have h2 := List.pairwise_map.mp h1'
      exact h2.imp fun {a b} q => by have q : (a.2.id : Int) < (b.2.id : Int) := q
                                     simp only [decide_eq_true_eq]; omega
  have o3 : NdIds c → (ordered (fun x y : Item => decide (x.id < y.id)) c.asleep = true ↔ (sp c 3).Pairwise (fun a b => skey a ≤ skey b)) := fun nd => by
    rw [ordered_iff (fun a b c h1 h2 => by simp only [decide_eq_true_eq] at *; omega)]
    constructor
    · intro h
      show (c.asleep.map Spot.asleep).Pairwise _
      rw [List.pairwise_map]
      exact h.imp fun {a b} q => by have q : a.id < b.id := by simpa using q
                                    show (a.id : Int) ≤ (b.id : Int); omega
    · intro h
      have h1 := lt_of_nd (nd_row nd 3) (pw_imp_mem h fun a ha b hb q => by
        obtain ⟨x, _, rfl⟩ := List.mem_map.mp ha
        obtain ⟨y, _, rfl⟩ := List.mem_map.mp hb
        exact q)
      have h1' : (c.asleep.map Spot.asleep).Pairwise (fun a b => sidI a < sidI b) := h1
      have h2 := List.pairwise_map.mp h1'
      exact h2.imp fun {a b} q => by have q : (a.id : Int) < (b.id : Int) := q
                                     simp only [decide_eq_true_eq]; omega
  have hall : (∀ s ∈ spAll c, okSpot c.clock s) ↔ (∀ x ∈ c.current, okItem x) ∧ (∀ x ∈ c.asleep, okItem x) ∧ (∀ x ∈ c.future, okSpot c.clock (fut x)) ∧ (∀ x ∈ c.frozen, okSpot c.clock (frz x)) := by
    constructor
    · intro h
      exact ⟨fun x hx => h (.current x) (mem_all_of (w := 0) (List.mem_map_of_mem (f := Spot.current) hx)), fun x hx => h (.asleep x) (mem_all_of (w := 3) (List.mem_map_of_mem (f := Spot.asleep) hx)),
        fun x hx => h (fut x) (mem_all_of (w := 1) (List.mem_map_of_mem (f := fut) hx)), fun x hx => h (frz x) (mem_all_of (w := 2) (List.mem_map_of_mem (f := frz) hx))⟩
    · rintro ⟨h0, h3, h1, h2⟩ s hs
      rw [mem_all] at hs
      cases s with
      | current x => obtain ⟨y, hy, e⟩ := List.mem_map.mp hs; rw [← e]; exact h0 y hy
      | future t x => obtain ⟨y, hy, e⟩ := List.mem_map.mp hs; rw [← e]; exact h1 y hy
      | frozen t x => obtain ⟨y, hy, e⟩ := List.mem_map.mp hs; rw [← e]; exact h2 y hy
      | asleep x => obtain ⟨y, hy, e⟩ := List.mem_map.mp hs; rw [← e]; exact h3 y hy
  simp only [sound, Bool.and_eq_true, decide_eq_true_eq, hnd, o0, o1, List.all_eq_true, itemOk_iff, beq_iff_eq]
  rw [size_eq]
  constructor
  · rintro ⟨⟨⟨⟨⟨⟨⟨⟨⟨⟨a, b⟩, nd⟩, d⟩, e⟩, f⟩, g⟩, p0⟩, p1⟩, p2⟩, p3⟩
    refine ⟨by rw [← END_eq]; exact a, b, nd, hall.mpr ⟨d, e, fun x hx => ?_, fun x hx => ?_⟩, fun w => ?_⟩
    · obtain ⟨⟨⟨q1, q2⟩, q3⟩, q4⟩ := f x hx; exact ⟨q1, q2, q3, by rw [FAR_eq] at q4; exact q4⟩
    · obtain ⟨⟨q1, q2⟩, q3⟩ := g x hx; exact ⟨q1, q2, by rw [FAR_eq] at q3; exact q3⟩
    · match w with
      | 0 => exact p0
      | 1 => exact p1
      | 2 => exact (o2 nd).mp p2
      | 3 => exact (o3 nd).mp p3
      | _ + 4 => exact List.Pairwise.nil
  · rintro ⟨a, b, nd, d, e⟩
    obtain ⟨d0, d3, d1, d2⟩ := hall.mp d
    refine ⟨⟨⟨⟨⟨⟨⟨⟨⟨⟨by rw [END_eq]; exact a, b⟩, nd⟩, d0⟩, d3⟩, fun x hx => ?_⟩, fun x hx => ?_⟩, e 0⟩, e 1⟩, (o2 nd).mpr (e 2)⟩, (o3 nd).mpr (e 3)⟩
    · obtain ⟨q1, q2, q3, q4⟩ := d1 x hx; exact ⟨⟨⟨q1, q2⟩, q3⟩, by rw [FAR_eq]; exact q4⟩
    · obtain ⟨q1, q2, q3⟩ := d2 x hx; exact ⟨⟨q1, q2⟩, by rw [FAR_eq]; exact q3⟩

/-! ### what keeps it -/
theorem Snd.start : Snd Vbdead.start := by
  refine ⟨by decide, by decide, List.nodup_nil, fun s hs => (by cases hs), fun w => ?_⟩
  match w with
  | 0 => exact List.Pairwise.nil
  | 1 => exact List.Pairwise.nil
  | 2 => exact List.Pairwise.nil
  | 3 => exact List.Pairwise.nil
  | _ + 4 => exact List.Pairwise.nil
theorem mem_without {c : Cal} {id : Nat} {s : Spot} : s ∈ spAll (c.without id) ↔ s ∈ spAll c ∧ sid s ≠ id := by
  rw [all_without, List.mem_filter]; simp [keepB]
theorem Snd.without {c : Cal} (h : Snd c) (id : Nat) : Snd (c.without id) := by
  refine ⟨h.clk, ?_, ?_, fun s hs => h.ok s (mem_without.mp hs).1, fun w => ?_⟩
  · rw [all_without]; exact Nat.le_trans (List.length_filter_le ..) h.sz
  · unfold NdIds; rw [all_without]; exact List.Nodup.sublist (List.Sublist.map _ List.filter_sublist) h.nd
  · rw [sp_without]; exact (h.ord w).sublist List.filter_sublist
theorem len_without {c : Cal} (h : NdIds c) {s : Spot} (hs : s ∈ spAll c) : (spAll (c.without (sid s))).length + 1 = (spAll c).length := by
  rw [all_without]
  have : ∀ {l : List Spot}, (l.map sid).Nodup → s ∈ l → (l.filter (keepB (sid s))).length + 1 = l.length := by
    intro l
    induction l with
    | nil => intro _ h; cases h
    | cons x l ih =>
      intro nd hm
      rw [List.map_cons, List.nodup_cons] at nd
      by_cases e : sid x = sid s
      · have hx : keepB (sid s) x = false := by simp [keepB, e]
        have hl : l.filter (keepB (sid s)) = l := List.filter_eq_self.mpr fun y hy => by
          have : sid y ≠ sid s := fun q => nd.1 (by rw [e, ← q]; exact List.mem_map_of_mem (f := sid) hy)
          simp [keepB, this]
        rw [List.filter_cons_of_neg (by simp [hx]), hl]; rfl
      · have hx : keepB (sid s) x = true := by simp [keepB, e]
        rw [List.filter_cons_of_pos hx, List.length_cons, List.length_cons]
        rcases List.mem_cons.mp hm with rfl | hm
        · exact absurd rfl e
        · rw [ih nd.2 hm]
  exact this h hs
theorem Snd.put {c : Cal} (h : Snd c) {s : Spot} (new : ∀ y ∈ spAll c, sid y ≠ sid s) (ok : okSpot c.clock s) (room : (spAll c).length < 2000) : Snd (WM.put c s) := by
  have new' : ∀ y ∈ sp c (sw s), sid y ≠ sid s := fun y hy => new y (mem_all_of hy)
  have hp := perm_all_put new'
  refine ⟨by rw [clock_put]; exact h.clk, by rw [hp.length_eq]; exact room, ?_, fun y hy => ?_, fun w => ?_⟩
  · refine (hp.map sid).nodup_iff.mpr ?_
    rw [List.map_cons, List.nodup_cons]
    refine ⟨fun q => ?_, h.nd⟩
    obtain ⟨y, hy, e⟩ := List.mem_map.mp q
    exact new y hy e
  · rw [clock_put]
    rcases (mem_all_put new').mp hy with rfl | hy
    · exact ok
    · exact h.ok y hy
  · by_cases e : w = sw s
    · subst e
      rw [sp_put_same new']
      exact sorted_ins (fun y _ q => by simpa [behindB] using q) (fun y _ q => by have q : ¬ skey y ≤ skey s := by simpa [behindB] using q
                                                                                  omega) (h.ord _)
    · rw [sp_put_other e]; exact h.ord w
/-- from one spot to another -/
theorem Snd.move {c : Cal} (h : Snd c) {s s' : Spot} (hs : s ∈ spAll c) (e : sid s' = sid s) (ok : okSpot c.clock s') : Snd (WM.put (c.without (sid s)) s') := by
  refine (h.without _).put (fun y hy => by rw [e]; exact (mem_without.mp hy).2) ok ?_
  have := len_without h.nd hs
  have := h.sz
  omega
theorem spot_put {c : Cal} {s : Spot} (new : ∀ y ∈ spAll c, sid y ≠ sid s) (nd : NdIds c) (id : Int) : (put c s).spot id = if id = sidI s then some s else c.spot id := by
  have new' : ∀ y ∈ sp c (sw s), sid y ≠ sid s := fun y hy => new y (mem_all_of hy)
  have nd' : NdIds (put c s) := ((perm_all_put new').map sid).nodup_iff.mpr (by
    rw [List.map_cons, List.nodup_cons]
    exact ⟨fun q => by obtain ⟨y, hy, e⟩ := List.mem_map.mp q; exact new y hy e, nd⟩)
  by_cases e : id = sidI s
  · rw [if_pos e]; exact (spot_iff nd').mpr ⟨(mem_all_put new').mpr (.inl rfl), e.symm⟩
  · rw [if_neg e]
    cases q : c.spot id with
    | some y =>
      obtain ⟨h1, h2⟩ := spot_some_mem q
      exact (spot_iff nd').mpr ⟨(mem_all_put new').mpr (.inr h1), h2⟩
    | none =>
      refine spot_none.mpr fun y hy => ?_
      rcases (mem_all_put new').mp hy with rfl | hy
      · exact fun z => e z.symm
      · exact spot_none.mp q y hy
theorem nd_without {c : Cal} (nd : NdIds c) (id : Nat) : NdIds (c.without id) := by
  unfold NdIds; rw [all_without]; exact List.Nodup.sublist (List.Sublist.map _ List.filter_sublist) nd
theorem spot_without {c : Cal} (nd : NdIds c) (n : Nat) (id : Int) : (c.without n).spot id = if id = (n : Int) then none else c.spot id := by
  by_cases e : id = (n : Int)
  · rw [if_pos e]
    refine spot_none.mpr fun y hy q => (mem_without.mp hy).2 ?_
    have : (sid y : Int) = (n : Int) := q.trans e
    omega
  · rw [if_neg e]
    cases q : c.spot id with
    | some y =>
      obtain ⟨h1, h2⟩ := spot_some_mem q
      refine (spot_iff (nd_without nd n)).mpr ⟨mem_without.mpr ⟨h1, fun z => e ?_⟩, h2⟩
      rw [← h2, ← z]
    | none => exact spot_none.mpr fun y hy => spot_none.mp q y (mem_without.mp hy).1
theorem spot_move {c : Cal} {s s' : Spot} (nd : NdIds c) (hs : s ∈ spAll c) (e : sid s' = sid s) (id : Int) : (put (c.without (sid s)) s').spot id = if id = sidI s then some s' else c.spot id := by
  have e' : sidI s' = sidI s := by show (sid s' : Int) = (sid s : Int); rw [e]
  rw [spot_put (fun y hy => by rw [e]; exact (mem_without.mp hy).2) (nd_without nd _), spot_without nd]
  by_cases q : id = sidI s
  · rw [if_pos (by rw [e']; exact q), if_pos q]
  · rw [if_neg (by rw [e']; exact q), if_neg q, if_neg q]

/-! ### the item changed at its place -/
theorem reItem_other {x : Item} {s : Spot} (h : sid s ≠ x.id) : reItem x s = s := by
  have e : ∀ y : Item, y.id ≠ x.id → inPlace x y = y := fun y q => by unfold inPlace; rw [if_neg q]
  cases s with | current y => exact congrArg Spot.current (e y h) | future t y => exact congrArg (Spot.future t) (e y h) | frozen t y => exact congrArg (Spot.frozen t) (e y h) | asleep y => exact congrArg Spot.asleep (e y h)
def withItem (x : Item) : Spot → Spot
  | .current _ => .current x
  | .future t _ => .future t x
  | .frozen t _ => .frozen t x
  | .asleep _ => .asleep x
theorem reItem_same {x : Item} {s : Spot} (h : sid s = x.id) : reItem x s = withItem x s := by
  have e : ∀ y : Item, y.id = x.id → inPlace x y = x := fun y q => by unfold inPlace; rw [if_pos q]
  cases s with | current y => exact congrArg Spot.current (e y h) | future t y => exact congrArg (Spot.future t) (e y h) | frozen t y => exact congrArg (Spot.frozen t) (e y h) | asleep y => exact congrArg Spot.asleep (e y h)
theorem Snd.changed {c : Cal} (h : Snd c) {s : Spot} {x : Item} (hs : s ∈ spAll c) (e : x.id = sid s) (ok : okSpot c.clock (withItem x s)) (hk : skey (withItem x s) = skey s) : Snd (c.changed x) := by
  have key : ∀ y ∈ spAll c, skey (reItem x y) = skey y ∧ okSpot c.clock (reItem x y) := fun y hy => by
    by_cases q : sid y = x.id
    · have : y = s := by
        have h1 := spot_of_mem h.nd hy
        have h2 := spot_of_mem h.nd hs
        have h3 : sidI y = sidI s := by show (sid y : Int) = (sid s : Int); rw [q, e]
        rw [h3, h2] at h1
        exact (Option.some.inj h1).symm
      subst this
      rw [reItem_same q]; exact ⟨hk, ok⟩
    · rw [reItem_other q]; exact ⟨rfl, h.ok y hy⟩
  refine ⟨h.clk, by rw [all_changed, List.length_map]; exact h.sz, ?_, fun y hy => ?_, fun w => ?_⟩
  · unfold NdIds
    rw [all_changed, List.map_map]
    have : (sid ∘ reItem x) = sid := funext fun y => sid_reItem x y
    rw [this]; exact h.nd
  · rw [all_changed] at hy
    obtain ⟨z, hz, rfl⟩ := List.mem_map.mp hy
    exact (key z hz).2
  · rw [sp_changed, List.pairwise_map]
    exact pw_imp_mem (h.ord w) fun a ha b hb q => by
      rw [(key a (mem_all_of ha)).1, (key b (mem_all_of hb)).1]; exact q
theorem spot_changed {c : Cal} (nd : NdIds c) {s : Spot} {x : Item} (hs : s ∈ spAll c) (e : x.id = sid s) (id : Int) : (c.changed x).spot id = if id = sidI s then some (withItem x s) else c.spot id := by
  have nd' : NdIds (c.changed x) := by
    unfold NdIds
    rw [all_changed, List.map_map]
    have : (sid ∘ reItem x) = sid := funext fun y => sid_reItem x y
    rw [this]; exact nd
  by_cases q : id = sidI s
  · rw [if_pos q]
    refine (spot_iff nd').mpr ⟨?_, ?_⟩
    · rw [all_changed, ← reItem_same (x := x) (s := s) e.symm]; exact List.mem_map_of_mem (f := reItem x) hs
    · rw [← reItem_same (x := x) (s := s) e.symm, q]
      show (sid (reItem x s) : Int) = (sid s : Int)
      rw [sid_reItem]
  · rw [if_neg q]
    cases r : c.spot id with
    | some y =>
      obtain ⟨h1, h2⟩ := spot_some_mem r
      have ne : sid y ≠ x.id := fun z => q (by rw [← h2]; show (sid y : Int) = (sid s : Int); rw [z, e])
      refine (spot_iff nd').mpr ⟨?_, h2⟩
      rw [all_changed, ← reItem_other ne]; exact List.mem_map_of_mem (f := reItem x) h1
    | none =>
      refine spot_none.mpr fun y hy => ?_
      rw [all_changed] at hy
      obtain ⟨z, hz, rfl⟩ := List.mem_map.mp hy
      have := spot_none.mp r z hz
      show (sid (reItem x z) : Int) ≠ id
      rw [sid_reItem]; exact this
end WM
end
section
set_option linter.all false
/-! The program's own state, as plain data: what a thing's fields are, the rows of ids, the known things by id. -/
namespace WM
open Vbdead

structure Th where
  num : Int
  pri : Int
  hol : Int
  chn : Nat
  due : Int
  rst : Int
  deriving DecidableEq
/-- order_key -/
def kI (t : Th) : Int := if t.chn = 0 then -t.pri else if t.chn = 1 then t.due else t.num
def thOf : Spot → Th
  | .current x => ⟨x.id, x.prio, x.held, 0, 0, 0⟩
  | .future t x => ⟨x.id, x.prio, x.held, 1, t, 0⟩
  | .frozen t x => ⟨x.id, x.prio, x.held, 2, 0, t⟩
  | .asleep x => ⟨x.id, x.prio, x.held, 3, 0, 0⟩
theorem kI_thOf (s : Spot) : kI (thOf s) = skey s := by cases s <;> rfl
theorem num_thOf (s : Spot) : (thOf s).num = sidI s := by cases s <;> rfl
theorem chn_thOf (s : Spot) : (thOf s).chn = sw s := by cases s <;> rfl
theorem pri_thOf (s : Spot) : (thOf s).pri = s.item.prio := by cases s <;> rfl
theorem hol_thOf (s : Spot) : (thOf s).hol = (s.item.held : Int) := by cases s <;> rfl

/-- a function changed at one place -/
def at1 {α β : Type} [DecidableEq α] (f : α → β) (a : α) (b : β) : α → β := fun x => if x = a then b else f x
theorem at1_same {α β : Type} [DecidableEq α] {f : α → β} {a : α} {b : β} : at1 f a b a = b := if_pos rfl
theorem at1_ne {α β : Type} [DecidableEq α] {f : α → β} {a x : α} {b : β} (h : x ≠ a) : at1 f a b x = f x := if_neg h
theorem at1_at1 {α β : Type} [DecidableEq α] {f : α → β} {a : α} {b c : β} : at1 (at1 f a b) a c = at1 f a c := by
  funext x; unfold at1; by_cases h : x = a <;> simp [h]

abbrev Rows := Nat → List Int
abbrev Ths := Int → Option Th
def keyAt (th : Ths) (i : Int) : Int := match th i with
  | some t => kI t
  | none => 0
theorem keyAt_some {th : Ths} {i : Int} {t : Th} (h : th i = some t) : keyAt th i = kI t := by unfold keyAt; rw [h]
/-- the test that place_on_chain asks of another thing -/
def passB (th : Ths) (key : Int) (front : Bool) (i : Int) : Bool := decide (keyAt th i < key) || (decide (keyAt th i = key) && !front)
def placeOf (th : Ths) (row : List Int) (key : Int) (front : Bool) : Nat := (row.takeWhile (passB th key front)).length
/-- put at its place -/
def putRow (th : Ths) (rows : Rows) (t : Th) (front : Bool) : Rows := at1 rows t.chn (ins (passB th (kI t) front) t.num (rows t.chn))
def offRow (rows : Rows) (t : Th) : Rows := at1 rows t.chn ((rows t.chn).erase t.num)

/-- what place_on_chain asks of the row -/
def SortedRow (th : Ths) (row : List Int) : Prop := row.Pairwise fun a b => keyAt th a ≤ keyAt th b
theorem passB_mono {th : Ths} {key : Int} {front : Bool} {a b : Int} (h : keyAt th a ≤ keyAt th b) (p : passB th key front b = true) : passB th key front a = true := by
  simp only [passB, Bool.or_eq_true, decide_eq_true_eq, Bool.and_eq_true] at *
  rcases p with p | ⟨p, q⟩
  · exact .inl (by omega)
  · rcases Int.lt_or_eq_of_le h with h | h
    · exact .inl (by omega)
    · exact .inr ⟨by omega, q⟩
theorem takeWhile_len {α : Type} {p : α → Bool} : ∀ {l : List α} {k : Nat}, k ≤ l.length → (∀ i x, i < k → l[i]? = some x → p x = true) → (∀ x, l[k]? = some x → p x = false) → (l.takeWhile p).length = k
  | [], k, h, _, _ => by
    have : k = 0 := by simpa using h
    subst this; rfl
  | a :: l, 0, _, _, h2 => by rw [List.takeWhile_cons_of_neg (by rw [h2 a rfl]; decide)]; rfl
  | a :: l, k + 1, h, h1, h2 => by
    rw [List.takeWhile_cons_of_pos (h1 0 a (Nat.succ_pos k) rfl), List.length_cons,
      takeWhile_len (Nat.le_of_succ_le_succ h) (fun i x hi e => h1 (i + 1) x (Nat.succ_lt_succ hi) e) fun x e => h2 x e]
theorem pw_get {α : Type} {R : α → α → Prop} : ∀ {l : List α} {i j : Nat} {x y : α}, l.Pairwise R → i < j → l[i]? = some x → l[j]? = some y → R x y
  | [], _, _, _, _, _, _, e, _ => by simp at e
  | a :: l, 0, 0, _, _, _, h, _, _ => absurd h (Nat.lt_irrefl _)
  | a :: l, 0, j + 1, x, y, s, _, e, e' => by
    have e : a = x := Option.some.inj e
    subst e
    exact (List.pairwise_cons.mp s).1 y (List.mem_of_getElem? (l := l) (i := j) e')
  | a :: l, i + 1, 0, _, _, _, h, _, _ => absurd h (Nat.not_lt_zero _)
  | a :: l, i + 1, j + 1, x, y, s, h, e, e' => pw_get (List.pairwise_cons.mp s).2 (Nat.lt_of_succ_lt_succ h) e e'
/-- halving: a turn to the right, a turn to the left, the end -/
structure Halved (th : Ths) (row : List Int) (key : Int) (front : Bool) (low high : Nat) : Prop where
  le : low ≤ high
  top : high ≤ row.length
  below : ∀ i x, i < low → row[i]? = some x → passB th key front x = true
  above : ∀ i x, high ≤ i → row[i]? = some x → passB th key front x = false
theorem Halved.start {th : Ths} {row : List Int} {key : Int} {front : Bool} : Halved th row key front 0 row.length :=
  ⟨Nat.zero_le _, Nat.le_refl _, fun i x h => absurd h (Nat.not_lt_zero _), fun i x h e => by
    have := (List.getElem?_eq_some_iff.mp e).1; omega⟩
theorem Halved.right {th : Ths} {row : List Int} {key : Int} {front : Bool} {low high m : Nat} {x : Int} (h : Halved th row key front low high) (s : SortedRow th row) (hm : m < high) (e : row[m]? = some x)
    (p : passB th key front x = true) : Halved th row key front (m + 1) high :=
  ⟨hm, h.top, fun i y hi ei => by
    rcases Nat.lt_or_eq_of_le (Nat.le_of_lt_succ hi) with q | q
    · exact passB_mono (pw_get (R := fun a b => keyAt th a ≤ keyAt th b) s q ei e) p
    · subst q; rw [e] at ei; cases ei; exact p, h.above⟩
theorem Halved.left {th : Ths} {row : List Int} {key : Int} {front : Bool} {low high m : Nat} {x : Int} (h : Halved th row key front low high) (s : SortedRow th row) (hl : low ≤ m) (hm : m < high) (e : row[m]? = some x)
    (p : passB th key front x = false) : Halved th row key front low m :=
  ⟨hl, Nat.le_trans (Nat.le_of_lt hm) h.top, h.below, fun i y hi ei => by
    rcases Nat.lt_or_eq_of_le hi with q | q
    · cases z : passB th key front y with
      | false => rfl
      | true => rw [passB_mono (pw_get (R := fun a b => keyAt th a ≤ keyAt th b) s q e ei) z] at p; cases p
    · subst q; rw [e] at ei; cases ei; exact p⟩
theorem Halved.done {th : Ths} {row : List Int} {key : Int} {front : Bool} {k : Nat} (h : Halved th row key front k k) : placeOf th row key front = k :=
  takeWhile_len h.top h.below fun x e => h.above k x (Nat.le_refl _) e
theorem ins_place {th : Ths} {row : List Int} {key x : Int} {front : Bool} : ins (passB th key front) x row = row.take (placeOf th row key front) ++ x :: row.drop (placeOf th row key front) := ins_eq_place
theorem place_le {th : Ths} {row : List Int} {key : Int} {front : Bool} : placeOf th row key front ≤ row.length := by
  unfold placeOf
  exact (List.takeWhile_prefix _).length_le

/-! ### the program's state told by the specification's -/
structure Good (c : Cal) (clock : Int) (rows : Rows) (th : Ths) (n : Nat) : Prop where
  clk : clock = (c.clock : Int)
  row : ∀ w, w < 4 → rows w = (sp c w).map sidI
  th : ∀ id, th id = (c.spot id).map thOf
  n : n = (spAll c).length
  snd : Snd c
/-- as Good, but that the thing s has other fields (its number and its chain are the same) -/
structure Near (c : Cal) (s : Spot) (t : Th) (clock : Int) (rows : Rows) (th : Ths) (n : Nat) : Prop where
  clk : clock = (c.clock : Int)
  row : ∀ w, w < 4 → rows w = (sp c w).map sidI
  mem : s ∈ spAll c
  num : t.num = sidI s
  chn : t.chn = sw s
  this : th (sidI s) = some t
  th : ∀ id, id ≠ sidI s → th id = (c.spot id).map thOf
  n : n = (spAll c).length
  snd : Snd c
section
variable {c : Cal} {s s' : Spot} {t t' : Th} {clock : Int} {rows : Rows} {th : Ths} {n : Nat} {id : Int}
theorem Good.toSome (G : Good c clock rows th n) (h : c.spot id = some s) : th id = some (thOf s) := by rw [G.th, h]; rfl
theorem Good.toNone (G : Good c clock rows th n) (h : c.spot id = none) : th id = none := by rw [G.th, h]; rfl
theorem Good.isSome (G : Good c clock rows th n) (id : Int) : (th id).isSome = (c.spot id).isSome := by rw [G.th]; cases c.spot id <;> rfl
/-- th says some: the spot -/
theorem Good.of_some (G : Good c clock rows th n) (h : th id = some t) : ∃ s, c.spot id = some s ∧ t = thOf s := by
  rw [G.th] at h
  cases e : c.spot id with
  | none => rw [e] at h; cases h
  | some s => rw [e] at h; exact ⟨s, rfl, (Option.some.inj h).symm⟩
theorem Good.near (G : Good c clock rows th n) (h : c.spot id = some s) : Near c s (thOf s) clock rows th n := by
  obtain ⟨h1, h2⟩ := spot_some_mem h
  exact ⟨G.clk, G.row, h1, num_thOf s, chn_thOf s, by rw [h2]; exact G.toSome h, fun i _ => G.th i, G.n, G.snd⟩
theorem Near.set (N : Near c s t clock rows th n) (hn : t'.num = t.num) (hc : t'.chn = t.chn) : Near c s t' clock rows (at1 th (sidI s) (some t')) n :=
  ⟨N.clk, N.row, N.mem, hn.trans N.num, hc.trans N.chn, at1_same, fun i h => by rw [at1_ne h]; exact N.th i h, N.n, N.snd⟩
theorem Near.good (N : Near c s (thOf s) clock rows th n) : Good c clock rows th n := by
  refine ⟨N.clk, N.row, fun i => ?_, N.n, N.snd⟩
  by_cases e : i = sidI s
  · rw [e, N.this, spot_of_mem N.snd.nd N.mem]; rfl
  · exact N.th i e
theorem Near.inRow (N : Near c s t clock rows th n) : t.num ∈ rows t.chn := by
  rw [N.chn, N.row _ (sw_lt s), N.num]
  exact List.mem_map_of_mem (f := sidI) (mem_all.mp N.mem)
theorem erase_filter : ∀ {l : List Spot} {s : Spot}, (l.map sid).Nodup → (l.map sidI).erase (sidI s) = (l.filter (keepB (sid s))).map sidI
  | [], _, _ => rfl
  | x :: l, s, nd => by
    rw [List.map_cons, List.nodup_cons] at nd
    rw [List.map_cons, List.erase_cons]
    by_cases e : sid x = sid s
    · have hx : ¬ keepB (sid s) x = true := by simp [keepB, e]
      have hl : l.filter (keepB (sid s)) = l := List.filter_eq_self.mpr fun y hy => by
        have : sid y ≠ sid s := fun q => nd.1 (by rw [e, ← q]; exact List.mem_map_of_mem (f := sid) hy)
        simp [keepB, this]
      have hb : (sidI x == sidI s) = true := by simp only [beq_iff_eq]; show (sid x : Int) = (sid s : Int); rw [e]
      rw [if_pos hb, List.filter_cons_of_neg hx, hl]
    · have hx : keepB (sid s) x = true := by simp [keepB, e]
      have hb : ¬ (sidI x == sidI s) = true := by
        simp only [beq_iff_eq]; show ¬ (sid x : Int) = (sid s : Int); omega
      rw [if_neg hb, List.filter_cons_of_pos hx, List.map_cons, erase_filter nd.2]
theorem filter_other {w : Nat} (h : w ≠ sw s) (nd : NdIds c) (hs : s ∈ spAll c) : (sp c w).filter (keepB (sid s)) = sp c w := List.filter_eq_self.mpr fun y hy => by
  have : sid y ≠ sid s := fun q => by
    have h1 := spot_of_mem nd (mem_all_of hy)
    have h2 := spot_of_mem nd hs
    have h3 : sidI y = sidI s := by show (sid y : Int) = (sid s : Int); rw [q]
    rw [h3, h2] at h1
    have h4 : s = y := Option.some.inj h1
    exact h (by rw [h4]; exact (mem_sp_w hy).symm)
  simp [keepB, this]
/-- taken off: the rows are those without it -/
theorem Near.off (N : Near c s t clock rows th n) : ∀ w, w < 4 → offRow rows t w = (sp (c.without (sid s)) w).map sidI := fun w hw => by
  unfold offRow
  rw [sp_without]
  by_cases e : w = t.chn
  · subst e
    rw [at1_same, N.row _ hw, N.num, erase_filter (nd_row N.snd.nd _)]
  · rw [at1_ne e, N.row w hw, filter_other (by rw [← N.chn]; exact e) N.snd.nd N.mem]
/-- what place_on_chain meets in a row that has not the thing itself -/
theorem keyAt_row {d : Cal} {id : Int} (ht : ∀ i, i ≠ id → th i = (d.spot i).map thOf) (nd : NdIds d) {y : Spot} (hy : y ∈ spAll d) (ne : sidI y ≠ id) : keyAt th (sidI y) = skey y := by
  have : th (sidI y) = some (thOf y) := by rw [ht _ ne, spot_of_mem nd hy]; rfl
  rw [keyAt_some this, kI_thOf]
structure Ready (d : Cal) (id : Int) (rows : Rows) (th : Ths) : Prop where
  row : ∀ w, w < 4 → rows w = (sp d w).map sidI
  th : ∀ i, i ≠ id → th i = (d.spot i).map thOf
  no : ∀ y ∈ spAll d, sidI y ≠ id
  snd : Snd d
theorem Ready.known {d : Cal} (R : Ready d id rows th) {w : Nat} (hw : w < 4) {i : Int} (h : i ∈ rows w) : ∃ y ∈ sp d w, i = sidI y ∧ th i = some (thOf y) ∧ i ≠ id := by
  rw [R.row w hw] at h
  obtain ⟨y, hy, rfl⟩ := List.mem_map.mp h
  have ne := R.no y (mem_all_of hy)
  exact ⟨y, hy, rfl, by rw [R.th _ ne, spot_of_mem R.snd.nd (mem_all_of hy)]; rfl, ne⟩
theorem Ready.sorted {d : Cal} (R : Ready d id rows th) {w : Nat} (hw : w < 4) : SortedRow th (rows w) := by
  unfold SortedRow
  rw [R.row w hw, List.pairwise_map]
  exact pw_imp_mem (R.snd.ord w) fun a ha b hb q => by
    rw [keyAt_row R.th R.snd.nd (mem_all_of ha) (R.no a (mem_all_of ha)), keyAt_row R.th R.snd.nd (mem_all_of hb) (R.no b (mem_all_of hb))]; exact q
theorem Ready.set {d : Cal} (R : Ready d id rows th) (o : Option Th) : Ready d id rows (at1 th id o) :=
  ⟨R.row, fun i h => by rw [at1_ne h]; exact R.th i h, R.no, R.snd⟩
/-- put behind its equals: the specification's put -/
theorem Ready.put {d : Cal} (R : Ready d (sidI s) rows th) : ∀ w, w < 4 → putRow th rows (thOf s) false w = (sp (WM.put d s) w).map sidI := fun w hw => by
  have new : ∀ y ∈ sp d (sw s), sid y ≠ sid s := fun y hy q => R.no y (mem_all_of hy) (by show (sid y : Int) = (sid s : Int); rw [q])
  unfold putRow
  by_cases e : w = (thOf s).chn
  · subst e
    rw [at1_same, num_thOf, kI_thOf, R.row _ hw, chn_thOf, sp_put_same new]
    refine (map_ins fun y hy => ?_).symm
    unfold passB behindB
    rw [keyAt_row R.th R.snd.nd (mem_all_of hy) (R.no y (mem_all_of hy))]
    by_cases h1 : skey y < skey s
    · rw [decide_eq_true h1, decide_eq_true (show skey y ≤ skey s by omega)]; rfl
    · by_cases h2 : skey y = skey s
      · rw [decide_eq_false h1, decide_eq_true h2, decide_eq_true (show skey y ≤ skey s by omega)]; rfl
      · rw [decide_eq_false h1, decide_eq_false h2, decide_eq_false (show ¬ skey y ≤ skey s by omega)]; rfl
  · rw [at1_ne e, R.row w hw, sp_put_other (by rw [← chn_thOf]; exact e)]
theorem Near.ready (N : Near c s t clock rows th n) : Ready (c.without (sid s)) (sidI s) (offRow rows t) th := by
  refine ⟨N.off, fun i h => ?_, fun y hy q => (mem_without.mp hy).2 ?_, N.snd.without _⟩
  · rw [N.th i h, spot_without N.snd.nd, if_neg h]
  · have q : (sid y : Int) = (sid s : Int) := q
    omega
/-- moved to another spot: all that move does -/
theorem Near.moved (N : Near c s t clock rows th n) (e : sid s' = sid s) (ok : okSpot c.clock s') :
    Good (WM.put (c.without (sid s)) s') clock (putRow (at1 th (sidI s) (some (thOf s'))) (offRow rows t) (thOf s') false) (at1 th (sidI s) (some (thOf s'))) n := by
  have e' : sidI s' = sidI s := by show (sid s' : Int) = (sid s : Int); rw [e]
  have R := N.ready.set (some (thOf s'))
  rw [← e'] at R
  refine ⟨by rw [clock_put]; exact N.clk, by rw [← e']; exact R.put, fun i => ?_, ?_, N.snd.move N.mem e ok⟩
  · rw [spot_move N.snd.nd N.mem e]
    by_cases q : i = sidI s
    · rw [q, at1_same, if_pos rfl]; rfl
    · rw [at1_ne q, if_neg q]; exact N.th i q
  · have new : ∀ y ∈ sp (c.without (sid s)) (sw s'), sid y ≠ sid s' := fun y hy => by rw [e]; exact (mem_without.mp (mem_all_of hy)).2
    rw [(perm_all_put new).length_eq, List.length_cons, len_without N.snd.nd N.mem]; exact N.n
/-- a new thing -/
theorem Good.added (G : Good c clock rows th n) (h : c.spot (sidI s) = none) (ok : okSpot c.clock s) (room : n < 2000) :
    Good (WM.put c s) clock (putRow (at1 th (sidI s) (some (thOf s))) rows (thOf s) false) (at1 th (sidI s) (some (thOf s))) (n + 1) := by
  have no : ∀ y ∈ spAll c, sidI y ≠ sidI s := spot_none.mp h
  have new : ∀ y ∈ spAll c, sid y ≠ sid s := fun y hy q => no y hy (by show (sid y : Int) = (sid s : Int); rw [q])
  have R : Ready c (sidI s) rows (at1 th (sidI s) (some (thOf s))) := ⟨G.row, fun i q => by rw [at1_ne q]; exact G.th i, no, G.snd⟩
  refine ⟨by rw [clock_put]; exact G.clk, R.put, fun i => ?_, ?_, G.snd.put new ok (by rw [← G.n]; exact room)⟩
  · rw [spot_put new G.snd.nd]
    by_cases q : i = sidI s
    · rw [q, at1_same, if_pos rfl]; rfl
    · rw [at1_ne q, if_neg q]; exact G.th i
  · rw [(perm_all_put fun y hy => new y (mem_all_of hy)).length_eq, List.length_cons, G.n]
theorem Good.ready (G : Good c clock rows th n) (h : c.spot id = none) : Ready c id rows th :=
  ⟨G.row, fun i _ => G.th i, spot_none.mp h, G.snd⟩
/-- known no more -/
theorem Good.dropped (G : Good c clock rows th n) (h : c.spot id = some s) : Good (c.without (sid s)) clock (offRow rows (thOf s)) (at1 th id none) (n - 1) := by
  have N := G.near h
  obtain ⟨h1, h2⟩ := spot_some_mem h
  refine ⟨G.clk, N.off, fun i => ?_, ?_, G.snd.without _⟩
  · rw [spot_without G.snd.nd]
    by_cases q : i = id
    · rw [q, at1_same, if_pos h2.symm]; rfl
    · rw [at1_ne q, if_neg (fun z => q (by rw [z]; exact h2))]; exact G.th i
  · have := len_without G.snd.nd h1
    have := G.n
    omega
/-- the item changed at its place -/
theorem Near.changed (N : Near c s t clock rows th n) {x : Item} (e : x.id = sid s) (ok : okSpot c.clock (withItem x s)) (hk : skey (withItem x s) = skey s) (ht : t = thOf (withItem x s)) :
    Good (c.changed x) clock rows th n := by
  refine ⟨N.clk, fun w hw => ?_, fun i => ?_, by rw [all_changed, List.length_map]; exact N.n, N.snd.changed N.mem e ok hk⟩
  · rw [sp_changed, List.map_map, N.row w hw]
    refine List.map_congr_left fun y _ => ?_
    show (sid y : Int) = (sid (reItem x y) : Int)
    rw [sid_reItem]
  · rw [spot_changed N.snd.nd N.mem e]
    by_cases q : i = sidI s
    · rw [q, N.this, if_pos rfl, ht]; rfl
    · rw [if_neg q]; exact N.th i q
end
end WM
end
section
set_option linter.all false
/-! In front of its equals; the calls in the one list. -/
namespace WM
open Vbdead

/-! ### ahead -/
def headPut (c : Cal) : Spot → Cal
  | .current x => { c with current := headCurrent x c.current }
  | .future t x => { c with future := headFuture t x c.future }
  | _ => c
theorem sp_head_same {c : Cal} {s : Spot} (h : sw s < 2) : sp (headPut c s) (sw s) = ins (frontB s) s (sp c (sw s)) := by
  cases s with
  | current x =>
    show (headCurrent x c.current).map Spot.current = ins _ _ (c.current.map Spot.current)
    rw [headCurrent_ins]
    exact map_ins fun y _ => dec_eq (by show -y.prio < -x.prio ↔ x.prio < y.prio; omega)
  | future t x =>
    show (headFuture t x c.future).map fut = ins _ _ (c.future.map fut)
    rw [headFuture_ins]
    exact map_ins fun y _ => dec_eq (by show (y.1 : Int) < (t : Int) ↔ y.1 < t; omega)
  | frozen t x => exact absurd h (by simp [sw])
  | asleep x => exact absurd h (by simp [sw])
theorem sp_head_other {c : Cal} {s : Spot} {w : Nat} (h : w ≠ sw s) : sp (headPut c s) w = sp c w := by
  match w with
  | 0 => cases s <;> first | rfl | exact absurd rfl h
  | 1 => cases s <;> first | rfl | exact absurd rfl h
  | 2 => cases s <;> first | rfl | exact absurd rfl h
  | 3 => cases s <;> first | rfl | exact absurd rfl h
  | _ + 4 => rfl
theorem perm_all_head {c : Cal} {s : Spot} (h : sw s < 2) : (spAll (headPut c s)).Perm (s :: spAll c) := by
  unfold spAll
  have hp := sp_head_same (c := c) h
  cases s with
  | current x =>
    rw [sp_head_other (w := 1) (by intro q; cases q), sp_head_other (w := 2) (by intro q; cases q), sp_head_other (w := 3) (by intro q; cases q)]
    have hp : sp (headPut c (.current x)) 0 = ins (frontB (.current x)) (.current x) (sp c 0) := hp
    rw [hp]
    exact List.Perm.append_right _ perm_ins
  | future t x =>
    rw [sp_head_other (w := 0) (by intro q; cases q), sp_head_other (w := 2) (by intro q; cases q), sp_head_other (w := 3) (by intro q; cases q)]
    have hp : sp (headPut c (.future t x)) 1 = ins (frontB (.future t x)) (.future t x) (sp c 1) := hp
    rw [hp]
    exact (List.Perm.append_left _ (List.Perm.append_right _ perm_ins)).trans List.perm_middle
  | frozen t x => exact absurd h (by simp [sw])
  | asleep x => exact absurd h (by simp [sw])
section
variable {c d : Cal} {s : Spot} {t : Th} {clock : Int} {rows : Rows} {th : Ths} {n : Nat} {id : Int}
theorem Ready.head (R : Ready d (sidI s) rows th) (h : sw s < 2) : ∀ w, w < 4 → putRow th rows (thOf s) true w = (sp (headPut d s) w).map sidI := fun w hw => by
  unfold putRow
  by_cases e : w = (thOf s).chn
  · subst e
    rw [at1_same, num_thOf, kI_thOf, R.row _ hw, chn_thOf, sp_head_same h]
    refine (map_ins fun y hy => ?_).symm
    unfold passB frontB
    rw [keyAt_row R.th R.snd.nd (mem_all_of hy) (R.no y (mem_all_of hy))]
    simp
  · rw [at1_ne e, R.row w hw, sp_head_other (by rw [← chn_thOf]; exact e)]
theorem Good.aheadOf (G : Good c clock rows th n) (hs : c.spot id = some s) (h : sw s < 2) :
    Good (headPut (c.without (sid s)) s) clock (putRow th (offRow rows (thOf s)) (thOf s) true) th n := by
  have N := G.near hs
  have hm := N.mem
  have R := N.ready
  have hp := perm_all_head (c := c.without (sid s)) h
  have nd : NdIds (headPut (c.without (sid s)) s) := (hp.map sid).nodup_iff.mpr (by
    rw [List.map_cons, List.nodup_cons]
    exact ⟨fun q => by obtain ⟨y, hy, e⟩ := List.mem_map.mp q; exact (mem_without.mp hy).2 e, nd_without G.snd.nd _⟩)
  have hmem : ∀ y, y ∈ spAll (headPut (c.without (sid s)) s) ↔ y ∈ spAll c := fun y => by
    rw [hp.mem_iff, List.mem_cons, mem_without]
    constructor
    · rintro (rfl | q)
      · exact hm
      · exact q.1
    · intro q
      by_cases e : sid y = sid s
      · left
        have h1 := spot_of_mem G.snd.nd q
        have h2 := spot_of_mem G.snd.nd hm
        have h3 : sidI y = sidI s := by show (sid y : Int) = (sid s : Int); rw [e]
        rw [h3, h2] at h1
        exact (Option.some.inj h1).symm
      · exact .inr ⟨q, e⟩
  have hck : (headPut (c.without (sid s)) s).clock = c.clock := by cases s <;> rfl
  have hlen : (spAll (headPut (c.without (sid s)) s)).length = (spAll c).length := by
    rw [hp.length_eq, List.length_cons, len_without G.snd.nd hm]
  refine ⟨by rw [hck]; exact G.clk, R.head h, fun i => ?_, by rw [hlen]; exact G.n, ⟨by rw [hck]; exact G.snd.clk, by rw [hlen]; exact G.snd.sz, nd, fun y hy => ?_, fun w => ?_⟩⟩
  · rw [G.th]
    cases q : c.spot i with
    | some y =>
      obtain ⟨h1, h2⟩ := spot_some_mem q
      rw [(spot_iff nd).mpr ⟨(hmem y).mpr h1, h2⟩]
    | none => rw [spot_none.mpr fun y hy => spot_none.mp q y ((hmem y).mp hy)]
  · rw [hck]; exact G.snd.ok y ((hmem y).mp hy)
  · by_cases e : w = sw s
    · subst e
      rw [sp_head_same h]
      exact sorted_ins (fun y _ q => by have q : skey y < skey s := by simpa [frontB] using q
                                        omega) (fun y _ q => by have q : ¬ skey y < skey s := by simpa [frontB] using q
                                                                omega) ((G.snd.without _).ord _)
    · rw [sp_head_other e]; exact (G.snd.without _).ord w
/-- the specification's ahead -/
theorem ahead_eq (G : Good c clock rows th n) (hs : c.spot id = some s) (h : sw s < 2) : Vbdead.ahead c id = .ok (headPut (c.without (sid s)) s) := by
  have hm := (spot_some_mem hs).1
  have same : ∀ w, w ≠ sw s → sp (c.without (sid s)) w = sp c w := fun w hw => by rw [sp_without, filter_other hw G.snd.nd hm]
  unfold Vbdead.ahead
  rw [hs]
  cases s with
  | current x =>
    refine congrArg Except.ok (cal_ext rfl fun w hw => ?_)
    match w with
    | 0 => rfl
    | 1 => exact (same 1 (by intro q; cases q)).symm
    | 2 => exact (same 2 (by intro q; cases q)).symm
    | 3 => exact (same 3 (by intro q; cases q)).symm
    | _ + 4 => rfl
  | future t x =>
    refine congrArg Except.ok (cal_ext rfl fun w hw => ?_)
    match w with
    | 0 => exact (same 0 (by intro q; cases q)).symm
    | 1 => rfl
    | 2 => exact (same 2 (by intro q; cases q)).symm
    | 3 => exact (same 3 (by intro q; cases q)).symm
    | _ + 4 => rfl
  | frozen t x => exact absurd h (by simp [sw])
  | asleep x => exact absurd h (by simp [sw])
end

/-! ### the calls in the one list -/
def Parses (l : List Int) (cs : List (List (List Int))) : Prop := ∃ f, PyFlat.calls PyVbdead.shape f l = some cs
theorem Parses.nil {cs : List (List (List Int))} (h : Parses [] cs) : cs = [] := by
  obtain ⟨f, h⟩ := h
  cases f <;> exact (Option.some.inj h).symm
theorem Parses.cons {p : Int} {r : List Int} {cs : List (List (List Int))} (h : Parses (p :: r) cs) :
    ∃ c t cs', PyFlat.call PyVbdead.shape (p :: r) = some (c, t) ∧ cs = c :: cs' ∧ Parses t cs' := by
  obtain ⟨f, h⟩ := h
  cases f with
  | zero => cases h
  | succ f =>
    rw [PyFlat.calls] at h
    cases e : PyFlat.call PyVbdead.shape (p :: r) with
    | none => rw [e] at h; cases h
    | some q =>
      obtain ⟨c, t⟩ := q
      rw [e] at h
      cases e2 : PyFlat.calls PyVbdead.shape f t with
      | none => simp only [e2] at h; cases h
      | some cs' => simp only [e2] at h; exact ⟨c, t, cs', rfl, (Option.some.inj h).symm, f, e2⟩
/-- a call of n numbers and no row -/
theorem call_plain {p : Int} {r : List Int} {n : Nat} {c : List (List Int)} {t : List Int} (hs : PyVbdead.shape p = some (n, 0)) (h : PyFlat.call PyVbdead.shape (p :: r) = some (c, t)) :
    n ≤ r.length ∧ c = [p :: r.take n] ∧ t = r.drop n := by
  rw [PyFlat.call, hs] at h
  dsimp only at h
  by_cases e : r.length < n
  · rw [if_pos e] at h; cases h
  · rw [if_neg e] at h
    simp only [PyFlat.rows, Option.some.injEq, Prod.mk.injEq] at h
    exact ⟨by omega, h.1.symm, h.2.symm⟩
/-- a call with a row alone -/
theorem call_row {p : Int} {r : List Int} {c : List (List Int)} {t : List Int} (hs : PyVbdead.shape p = some (0, 1)) (h : PyFlat.call PyVbdead.shape (p :: r) = some (c, t)) :
    ∃ (m : Nat) (r' : List Int), r = (m : Int) :: r' ∧ m ≤ r'.length ∧ c = [[p], r'.take m] ∧ t = r'.drop m := by
  rw [PyFlat.call, hs] at h
  simp only [Nat.not_lt_zero, if_false, List.drop_zero, List.take_zero] at h
  cases r with
  | nil => simp [PyFlat.rows, PyFlat.row] at h
  | cons m r' =>
    simp only [PyFlat.rows, PyFlat.row] at h
    by_cases e : 0 ≤ m ∧ m.toNat ≤ r'.length
    · rw [if_pos e] at h
      simp only [Option.some.injEq, Prod.mk.injEq] at h
      exact ⟨m.toNat, r', by rw [Int.toNat_of_nonneg e.1], e.2, h.1.symm, h.2.symm⟩
    · rw [if_neg e] at h; cases h
theorem shape_some {p : Int} {q : Nat × Nat} (h : PyVbdead.shape p = some q) : 0 ≤ p ∧ p ≤ 24 := by
  have : ¬ (p < 0 ∨ 24 < p) := fun e => by
    have : PyVbdead.shape p = none := by
      unfold PyVbdead.shape
      repeat rw [if_neg (by omega)]
    rw [this] at h; cases h
  omega
theorem shape_of_call {p : Int} {r : List Int} {q : List (List Int) × List Int} (h : PyFlat.call PyVbdead.shape (p :: r) = some q) : 0 ≤ p ∧ p ≤ 24 := by
  rw [PyFlat.call] at h
  cases e : PyVbdead.shape p with
  | none => rw [e] at h; cases h
  | some x => exact shape_some e
theorem whole2 {p : Int} {r : List Int} {c : List (List Int)} {t : List Int} (hs : PyVbdead.shape p = some (2, 0)) (h : PyFlat.call PyVbdead.shape (p :: r) = some (c, t)) (e : ∀ a b : Int, PyVbdead.whole [[p, a, b]] = [[p, a, b]]) : PyVbdead.whole c = c := by
  obtain ⟨hn, rfl, rfl⟩ := call_plain hs h
  match r, hn with
  | a :: b :: r, _ => exact e a b
theorem whole1 {p : Int} {r : List Int} {c : List (List Int)} {t : List Int} (hs : PyVbdead.shape p = some (1, 0)) (h : PyFlat.call PyVbdead.shape (p :: r) = some (c, t)) (e : ∀ a : Int, PyVbdead.whole [[p, a]] = [[p, a]]) : PyVbdead.whole c = c := by
  obtain ⟨hn, rfl, rfl⟩ := call_plain hs h
  match r, hn with
  | a :: r, _ => exact e a
theorem whole0 {p : Int} {r : List Int} {c : List (List Int)} {t : List Int} (hs : PyVbdead.shape p = some (0, 0)) (h : PyFlat.call PyVbdead.shape (p :: r) = some (c, t)) (e : PyVbdead.whole [[p]] = [[p]]) : PyVbdead.whole c = c := by
  obtain ⟨hn, rfl, rfl⟩ := call_plain hs h
  exact e
theorem wholeR {p : Int} {r : List Int} {c : List (List Int)} {t : List Int} (hs : PyVbdead.shape p = some (0, 1)) (h : PyFlat.call PyVbdead.shape (p :: r) = some (c, t)) (e : ∀ row : List Int, PyVbdead.whole [[p], row] = [[p], row]) : PyVbdead.whole c = c := by
  obtain ⟨m, r', rfl, hm, rfl, rfl⟩ := call_row hs h
  exact e _
theorem whole_call {p : Int} {r : List Int} {c : List (List Int)} {t : List Int} (h : PyFlat.call PyVbdead.shape (p :: r) = some (c, t)) : PyVbdead.whole c = c := by
  obtain ⟨h0, h1⟩ := shape_of_call h
  obtain ⟨k, rfl⟩ : ∃ k : Nat, p = (k : Int) := ⟨p.toNat, by omega⟩
  have hk : k < 25 := by omega
  match k, hk, h with
  | 0, _, h => exact whole2 rfl h (fun _ _ => rfl)
  | 1, _, h => exact wholeR rfl h (fun _ => rfl)
  | 2, _, h => exact whole2 rfl h (fun _ _ => rfl)
  | 3, _, h => exact whole2 rfl h (fun _ _ => rfl)
  | 4, _, h => exact whole2 rfl h (fun _ _ => rfl)
  | 5, _, h => exact whole1 rfl h (fun _ => rfl)
  | 6, _, h => exact whole1 rfl h (fun _ => rfl)
  | 7, _, h => exact whole1 rfl h (fun _ => rfl)
  | 8, _, h => exact whole2 rfl h (fun _ _ => rfl)
  | 9, _, h => exact whole1 rfl h (fun _ => rfl)
  | 10, _, h => exact whole1 rfl h (fun _ => rfl)
  | 11, _, h => exact whole1 rfl h (fun _ => rfl)
  | 12, _, h => exact whole1 rfl h (fun _ => rfl)
  | 13, _, h => exact whole0 rfl h rfl
  | 14, _, h => exact whole0 rfl h rfl
  | 15, _, h => exact whole0 rfl h rfl
  | 16, _, h => exact whole1 rfl h (fun _ => rfl)
  | 17, _, h => exact whole1 rfl h (fun _ => rfl)
  | 18, _, h => exact whole1 rfl h (fun _ => rfl)
  | 19, _, h => exact whole1 rfl h (fun _ => rfl)
  | 20, _, h => exact whole0 rfl h rfl
  | 21, _, h => exact whole0 rfl h rfl
  | 22, _, h => exact whole0 rfl h rfl
  | 23, _, h => exact wholeR rfl h (fun _ => rfl)
  | 24, _, h => exact whole0 rfl h rfl
theorem whole_calls : ∀ {f : Nat} {l : List Int} {cs : List (List (List Int))}, PyFlat.calls PyVbdead.shape f l = some cs → cs.map PyVbdead.whole = cs
  | 0, [], _, h => by cases h; rfl
  | f + 1, [], _, h => by cases h; rfl
  | 0, p :: r, _, h => by cases h
  | f + 1, p :: r, _, h => by
    rw [PyFlat.calls] at h
    cases e : PyFlat.call PyVbdead.shape (p :: r) with
    | none => rw [e] at h; cases h
    | some q =>
      obtain ⟨c, t⟩ := q
      rw [e] at h
      cases e2 : PyFlat.calls PyVbdead.shape f t with
      | none => simp only [e2] at h; cases h
      | some cs' =>
        simp only [e2] at h
        cases h
        rw [List.map_cons, whole_call e, whole_calls e2]
/-- what is due, from a state on -/
def due (c : Cal) (cs : List (List (List Int))) : List Int := PyFlat.told (PyFlat.played Vbdead.does c cs)
theorem due_nil (c : Cal) : due c [] = [] := rfl
theorem due_cons (c : Cal) (x : List (List Int)) (cs : List (List (List Int))) : due c (x :: cs) = ((does c x).2.length : Int) :: (does c x).2 ++ due (does c x).1 cs := by
  simp [due, PyFlat.played, PyFlat.told]
theorem answers_due {l : List Int} (h : PyVbdead.answers_asked l = true) : ∃ cs, Parses l cs ∧ PyVbdead.answers l = due start cs ∧ (PyVbdead.answers l).length ≤ 10000000 := by
  unfold PyVbdead.answers_asked at h
  cases e : PyFlat.calls PyVbdead.shape l.length l with
  | none => rw [e] at h; cases h
  | some raw =>
    rw [e] at h
    simp only [Bool.and_eq_true] at h
    refine ⟨raw, ⟨_, e⟩, ?_, by simpa [PyFlat.short] using h.2⟩
    unfold PyVbdead.answers PyVbdead.calls
    rw [e]
    have : raw.map PyVbdead.whole = raw := whole_calls e
    simp only [this]
    rfl
end WM
end
section
set_option linter.all false
/-! The specification's step, way by way, in words of spots. -/
namespace WM
open Vbdead
theorem timeOk_iff {d : Int} : timeOk d = true ↔ 0 ≤ d ∧ d ≤ 10000000000000 := by
  unfold timeOk
  rw [Bool.and_eq_true, decide_eq_true_eq, decide_eq_true_eq, FAR_eq]; rfl
theorem timeOk_false {d : Int} (h : ¬ (0 ≤ d ∧ d ≤ 10000000000000)) : timeOk d = false := by
  cases e : timeOk d with
  | false => rfl
  | true => exact absurd (timeOk_iff.mp e) h
theorem prioOk_iff {d : Int} : prioOk d = true ↔ -1000 ≤ d ∧ d ≤ 1000 := by
  unfold prioOk
  rw [Bool.and_eq_true, decide_eq_true_eq, decide_eq_true_eq]
theorem prioOk_false {d : Int} (h : ¬ (-1000 ≤ d ∧ d ≤ 1000)) : prioOk d = false := by
  cases e : prioOk d with
  | false => rfl
  | true => exact absurd (prioOk_iff.mp e) h
section
variable {c : Cal} {s : Spot} {id d t p : Int}
theorem st_none (e : c.spot id = none) : step c (.delay id d) = (c, [-5]) ∧ step c (.at_ id d) = (c, [-5]) ∧ step c (.retime id d) = (c, [-5]) ∧ step c (.sleep id) = (c, [-5]) ∧ step c (.wake id) = (c, [-5]) ∧ step c (.drop id) = (c, [-5]) ∧
    step c (.rank id d) = (c, [-5]) ∧ step c (.hold id) = (c, [-5]) ∧ step c (.free id) = (c, [-5]) ∧ step c (.fetch id) = (c, [-5]) ∧ step c (.ahead id) = (c, [-5]) := by
  simp [step, Vbdead.delay, at_, retime, Vbdead.sleep, wake, drop, rank, hold, free, fetch, ahead, e, done]
theorem st_delay_6 (e : c.spot id = some s) (h : ¬ (0 ≤ d ∧ d ≤ 10000000000000)) : step c (.delay id d) = (c, [-6]) := by
  simp [step, Vbdead.delay, e, timeOk_false h, done]
theorem st_delay_7 (e : c.spot id = some s) (h : 0 ≤ d ∧ d ≤ 10000000000000) (w : sw s = 1 ∨ sw s = 2) : step c (.delay id d) = (c, [-7]) := by
  have ht := timeOk_iff.mpr h
  cases s with
  | current y => rcases w with q | q <;> cases q
  | asleep y => rcases w with q | q <;> cases q
  | future d y => simp [step, Vbdead.delay, e, ht, done]
  | frozen d y => simp [step, Vbdead.delay, e, ht, done]
theorem st_delay_ok (e : c.spot id = some s) (h : 0 ≤ d ∧ d ≤ 10000000000000) (w1 : sw s ≠ 1) (w2 : sw s ≠ 2) : step c (.delay id d) = ((c.without (sid s)).waits s.item d.toNat, [0]) := by
  have ht := timeOk_iff.mpr h
  cases s with
  | current y => simp [step, Vbdead.delay, e, ht, done]; rfl
  | asleep y => simp [step, Vbdead.delay, e, ht, done]; rfl
  | future d y => exact absurd rfl w1
  | frozen d y => exact absurd rfl w2
theorem st_at_6 (e : c.spot id = some s) (h : ¬ ((c.clock : Int) ≤ t ∧ t ≤ 1000000000000000)) : step c (.at_ id t) = (c, [-6]) := by
  have : t < (c.clock : Int) ∨ (END : Int) < t ∨ ((c.clock + FAR : Nat) : Int) < t := by
    rw [END_eq]
    rcases Int.lt_or_le t c.clock with q | q
    · exact .inl q
    · exact .inr (.inl (by omega))
  simp only [step, at_, e, if_pos this, done]
theorem st_at (e : c.spot id = some s) (h : (c.clock : Int) ≤ t ∧ t ≤ 1000000000000000) : step c (.at_ id t) = step c (.delay id (t - c.clock)) := by
  by_cases q : t ≤ (c.clock : Int) + 10000000000000
  · have : ¬ (t < (c.clock : Int) ∨ (END : Int) < t ∨ ((c.clock + FAR : Nat) : Int) < t) := by
      rw [END_eq, FAR_eq]; omega
    simp only [step, at_, e, if_neg this]
  · have : t < (c.clock : Int) ∨ (END : Int) < t ∨ ((c.clock + FAR : Nat) : Int) < t := by
      rw [END_eq, FAR_eq]; omega
    rw [st_delay_6 e (by omega)]
    simp only [step, at_, e, if_pos this, done]
theorem st_retime_6 (e : c.spot id = some s) (h : ¬ (0 ≤ d ∧ d ≤ 10000000000000)) : step c (.retime id d) = (c, [-6]) := by
  simp [step, retime, e, timeOk_false h, done]
theorem st_retime_7 (e : c.spot id = some s) (h : 0 ≤ d ∧ d ≤ 10000000000000) (w : sw s = 0 ∨ sw s = 3) : step c (.retime id d) = (c, [-7]) := by
  have ht := timeOk_iff.mpr h
  cases s with
  | future d y => rcases w with q | q <;> cases q
  | frozen d y => rcases w with q | q <;> cases q
  | current y => simp [step, retime, e, ht, done]
  | asleep y => simp [step, retime, e, ht, done]
theorem st_retime_ok (e : c.spot id = some s) (ok : okSpot c.clock s) (h : 0 ≤ d ∧ d ≤ 10000000000000) (w1 : sw s ≠ 0) (w2 : sw s ≠ 3) : step c (.retime id d) = ((c.without (sid s)).waits s.item d.toNat, [0]) := by
  have ht := timeOk_iff.mpr h
  cases s with
  | current y => exact absurd rfl w1
  | asleep y => exact absurd rfl w2
  | future t y =>
    have h0 : y.held = 0 := ok.2.1
    have e1 : (c.without (sid (.future t y))).waits (Spot.item (.future t y)) d.toNat = (c.without y.id).onFuture (c.clock + d.toNat) y := by
      unfold Cal.waits
      exact if_pos h0
    rw [e1]; simp [step, retime, e, ht, done]
  | frozen t y =>
    have h0 : 1 ≤ y.held := ok.2.1
    have e1 : (c.without (sid (.frozen t y))).waits (Spot.item (.frozen t y)) d.toNat = (c.without y.id).onFrozen d.toNat y := by
      unfold Cal.waits
      exact if_neg (by show ¬ y.held = 0; omega)
    rw [e1]; simp [step, retime, e, ht, done]
theorem st_sleep_7 (e : c.spot id = some s) (w : sw s = 3) : step c (.sleep id) = (c, [-7]) := by
  cases s <;> first | (simp [sw] at w; done) | simp [step, Vbdead.sleep, e, done]
theorem st_sleep_ok (e : c.spot id = some s) (w : sw s ≠ 3) : step c (.sleep id) = ((c.without (sid s)).onAsleep s.item, [0]) := by
  cases s <;> first | exact absurd rfl w | (simp [step, Vbdead.sleep, e, done]; done) | (simp [step, Vbdead.sleep, e, done]; rfl)
theorem st_wake_7 (e : c.spot id = some s) (w : sw s ≠ 3) : step c (.wake id) = (c, [-7]) := by
  cases s <;> first | exact absurd rfl w | simp [step, wake, e, done]
theorem st_wake_ok (e : c.spot id = some s) (w : sw s = 3) : step c (.wake id) = ((c.without (sid s)).onCurrent s.item, [0]) := by
  cases s <;> first | (simp [sw] at w; done) | (simp [step, wake, e, done]; done) | (simp [step, wake, e, done]; rfl)
theorem st_drop_ok (e : c.spot id = some s) : step c (.drop id) = (c.without (sid s), [0]) := by
  simp [step, drop, e, done]
theorem st_rank_2 (e : c.spot id = some s) (h : ¬ (-1000 ≤ p ∧ p ≤ 1000)) : step c (.rank id p) = (c, [-2]) := by
  simp [step, rank, e, prioOk_false h, done]
theorem st_rank_cur (e : c.spot id = some s) (h : -1000 ≤ p ∧ p ≤ 1000) (w : sw s = 0) : step c (.rank id p) = ((c.without (sid s)).onCurrent { s.item with prio := p }, [0]) := by
  have ht := prioOk_iff.mpr h
  cases s <;> first | (simp [sw] at w; done) | (simp [step, rank, e, ht, done]; done) | (simp [step, rank, e, ht, done]; rfl)
theorem st_rank_not (e : c.spot id = some s) (h : -1000 ≤ p ∧ p ≤ 1000) (w : sw s ≠ 0) : step c (.rank id p) = (c.changed { s.item with prio := p }, [0]) := by
  have ht := prioOk_iff.mpr h
  cases s <;> first | exact absurd rfl w | (simp [step, rank, e, ht, done]; done) | (simp [step, rank, e, ht, done]; rfl)
theorem st_hold_16 (e : c.spot id = some s) (h : 1000 ≤ s.item.held) : step c (.hold id) = (c, [-16]) := by
  have h' : HOLDS ≤ s.item.held := h
  simp [step, hold, e, h', done]
theorem st_hold_fut {due : Nat} {x : Item} (e : c.spot id = some (.future due x)) (h : x.held < 1000) : step c (.hold id) = ((c.without x.id).onFrozen (due - c.clock) { x with held := x.held + 1 }, [0]) := by
  have h' : ¬ HOLDS ≤ (Spot.future due x).item.held := by show ¬ 1000 ≤ x.held; omega
  simp only [step, hold, e, if_neg h', done]
theorem st_hold_not (e : c.spot id = some s) (h : s.item.held < 1000) (w : sw s ≠ 1) : step c (.hold id) = (c.changed { s.item with held := s.item.held + 1 }, [0]) := by
  have h' : ¬ HOLDS ≤ s.item.held := by show ¬ 1000 ≤ s.item.held; omega
  cases s <;> first | exact absurd rfl w | simp only [step, hold, e, if_neg h', done]
theorem st_free_10 (e : c.spot id = some s) (h : s.item.held = 0) : step c (.free id) = (c, [-10]) := by
  simp only [step, free, e, if_pos h, done]
theorem st_free_fro {r : Nat} {x : Item} (e : c.spot id = some (.frozen r x)) (h : x.held = 1) : step c (.free id) = ((c.without x.id).onFuture (c.clock + r) { x with held := 0 }, [0]) := by
  have h' : ¬ (Spot.frozen r x).item.held = 0 := by show ¬ x.held = 0; omega
  simp only [step, free, e, if_neg h', if_pos h, done]
theorem st_free_not (e : c.spot id = some s) (h : s.item.held ≠ 0) (w : ¬ (sw s = 2 ∧ s.item.held = 1)) : step c (.free id) = (c.changed { s.item with held := s.item.held - 1 }, [0]) := by
  cases s with
  | frozen r x =>
    have h1 : ¬ x.held = 1 := fun q => w ⟨rfl, q⟩
    simp only [step, free, e, if_neg h, if_neg h1, done]; rfl
  | current x => simp only [step, free, e, if_neg h, done]
  | future t x => simp only [step, free, e, if_neg h, done]
  | asleep x => simp only [step, free, e, if_neg h, done]
theorem st_fetch_7 (e : c.spot id = some s) (w : sw s = 3) : step c (.fetch id) = (c, [-7]) := by
  cases s <;> first | (simp [sw] at w; done) | simp [step, fetch, e]
/-- the rest that fetch tells -/
def restOf (c : Cal) : Spot → Nat
  | .future t _ => t - c.clock
  | .frozen t _ => t
  | _ => 0
theorem st_fetch_cur (e : c.spot id = some s) (w : sw s = 0) : step c (.fetch id) = (c, [0, (restOf c s : Int)]) := by
  cases s <;> first | (simp [sw] at w; done) | simp [step, fetch, e, restOf]
theorem st_fetch_ok (e : c.spot id = some s) (w : sw s ≠ 0) (w3 : sw s ≠ 3) : step c (.fetch id) = ((c.without (sid s)).onCurrent s.item, [0, (restOf c s : Int)]) := by
  cases s with
  | current x => exact absurd rfl w
  | asleep x => exact absurd rfl w3
  | future t x => simp only [step, fetch, e]; rfl
  | frozen t x => simp only [step, fetch, e]; rfl
theorem st_ahead_7 (e : c.spot id = some s) (w : 2 ≤ sw s) : step c (.ahead id) = (c, [-7]) := by
  cases s with
  | current x => exact absurd w (by simp [sw])
  | future t x => exact absurd w (by simp [sw])
  | frozen t x => simp only [step, ahead, e, done]
  | asleep x => simp only [step, ahead, e, done]
/-- time_left of a thing that the specification knows -/
theorem left_rest {clock : Int} (hc : clock = (c.clock : Int)) (ok : okSpot c.clock s) : (if (thOf s).chn = 1 then (thOf s).due - clock else (thOf s).rst) = (restOf c s : Int) := by
  cases s with
  | current x => rfl
  | future t x =>
    have h1 : c.clock ≤ t := ok.2.2.1
    show (t : Int) - clock = ((t - c.clock : Nat) : Int)
    omega
  | frozen t x => rfl
  | asleep x => rfl
/-- join's refusal: 0 where it is done -/
def joinRef (known : Bool) (n : Nat) (id p : Int) : Int :=
  if ¬ (1 ≤ id ∧ id ≤ 1000000000) then -1 else if ¬ (-1000 ≤ p ∧ p ≤ 1000) then -2 else if known = true then -3 else if 2000 ≤ n then -4 else 0
theorem join_ref (c : Cal) (id p : Int) : Vbdead.join c id p = if joinRef (c.spot id).isSome c.size id p = 0 then .ok (c.onCurrent ⟨id.toNat, p, 0⟩) else .error (joinRef (c.spot id).isSome c.size id p) := by
  unfold Vbdead.join joinRef
  by_cases h1 : 1 ≤ id ∧ id ≤ 1000000000
  · rw [if_neg (show ¬ (id < 1 ∨ 1000000000 < id) by omega), if_neg (show ¬ ¬ (1 ≤ id ∧ id ≤ 1000000000) from fun q => q h1)]
    by_cases h2 : -1000 ≤ p ∧ p ≤ 1000
    · rw [if_neg (by rw [prioOk_iff.mpr h2]; decide), if_neg (show ¬ ¬ (-1000 ≤ p ∧ p ≤ 1000) from fun q => q h2)]
      by_cases h3 : (c.spot id).isSome = true
      · rw [if_pos h3, if_pos h3]; rfl
      · rw [if_neg h3, if_neg h3]
        by_cases h4 : MOST ≤ c.size
        · rw [if_pos h4, if_pos (show 2000 ≤ c.size from h4)]; rfl
        · rw [if_neg h4, if_neg (show ¬ 2000 ≤ c.size from h4)]; rfl
    · rw [if_pos (prioOk_false h2), if_pos h2]; rfl
  · rw [if_pos (show id < 1 ∨ 1000000000 < id by omega), if_pos h1]; rfl
theorem st_join (c : Cal) (id p : Int) : step c (.join id p) = if joinRef (c.spot id).isSome c.size id p = 0 then (c.onCurrent ⟨id.toNat, p, 0⟩, [0]) else (c, [joinRef (c.spot id).isSome c.size id p]) := by
  show done c (Vbdead.join c id p) = _
  rw [join_ref]
  by_cases h : joinRef (c.spot id).isSome c.size id p = 0
  · rw [if_pos h, if_pos h]; rfl
  · rw [if_neg h, if_neg h]; rfl
theorem joinRef_zero {known : Bool} {n : Nat} {id p : Int} (h : joinRef known n id p = 0) : (1 ≤ id ∧ id ≤ 1000000000) ∧ (-1000 ≤ p ∧ p ≤ 1000) ∧ known = false ∧ n < 2000 := by
  unfold joinRef at h
  by_cases h1 : 1 ≤ id ∧ id ≤ 1000000000
  · rw [if_neg (fun q => q h1)] at h
    by_cases h2 : -1000 ≤ p ∧ p ≤ 1000
    · rw [if_neg (fun q => q h2)] at h
      cases known with
      | true => simp at h
      | false =>
        rw [if_neg (by decide)] at h
        by_cases h4 : 2000 ≤ n
        · rw [if_pos h4] at h; cases h
        · exact ⟨h1, h2, rfl, by omega⟩
    · rw [if_pos h2] at h; cases h
  · rw [if_pos h1] at h; cases h
end
end WM
namespace WM
open Vbdead
theorem joinRef_no0 {known : Bool} {n : Nat} {id p : Int} : joinRef known n id p = 0 ∨ joinRef known n id p < 0 := by
  unfold joinRef
  by_cases h1 : ¬ (1 ≤ id ∧ id ≤ 1000000000)
  · rw [if_pos h1]; exact .inr (by decide)
  · rw [if_neg h1]
    by_cases h2 : ¬ (-1000 ≤ p ∧ p ≤ 1000)
    · rw [if_pos h2]; exact .inr (by decide)
    · rw [if_neg h2]
      by_cases h3 : known = true
      · rw [if_pos h3]; exact .inr (by decide)
      · rw [if_neg h3]
        by_cases h4 : 2000 ≤ n
        · rw [if_pos h4]; exact .inr (by decide)
        · rw [if_neg h4]; exact .inl rfl
theorem joinAll_no0 : ∀ (c : Cal) (row : List Int), joinAll c row ≠ .error 0
  | _, [] => fun h => by cases h
  | _, [_] => fun h => by
    rw [joinAll] at h
    injection h with h; cases h
  | c, id :: p :: r => fun h => by
    rw [joinAll, join_ref] at h
    by_cases q : joinRef (c.spot id).isSome c.size id p = 0
    · rw [if_pos q] at h; exact joinAll_no0 _ r h
    · rw [if_neg q] at h
      injection h with h
      exact q h
end WM
end
section
set_option linter.all false
/-! Turns, until, slip: what the specification does, row by row. -/
namespace WM
open Vbdead
section
variable {c : Cal}
theorem Snd.fut_sorted (h : Snd c) : c.future.Pairwise (fun a b => a.1 ≤ b.1) := by
  have := h.ord 1
  have h1 : (c.future.map fut).Pairwise (fun a b => skey a ≤ skey b) := this
  rw [List.pairwise_map] at h1
  exact h1.imp fun {a b} q => by have q : (a.1 : Int) ≤ (b.1 : Int) := q
                                 omega
theorem Snd.fut_ok (h : Snd c) {x : Nat × Item} (hx : x ∈ c.future) : okSpot c.clock (fut x) := h.ok _ (mem_all_of (w := 1) (List.mem_map_of_mem (f := fut) hx))
/-- the first of the future chain goes to the current chain -/
theorem pop_head (h : Snd c) {d : Nat} {x : Item} {r : List (Nat × Item)} (e : c.future = (d, x) :: r) : (c.without x.id).onCurrent x = { c with current := putCurrent x c.current, future := r } := by
  have hs : fut (d, x) ∈ spAll c := mem_all_of (w := 1) (by show fut (d, x) ∈ c.future.map fut; rw [e]; exact List.mem_cons_self ..)
  have other : ∀ w, w ≠ 1 → sp (c.without x.id) w = sp c w := fun w hw => by
    have := filter_other (c := c) (s := fut (d, x)) (w := w) hw h.nd hs
    rw [sp_without]; exact this
  have e0 : (c.without x.id).current = c.current := (List.map_inj_right (f := Spot.current) (fun _ _ q => Spot.current.inj q)).mp (other 0 (by decide))
  have e2 : (c.without x.id).frozen = c.frozen := (List.map_inj_right (f := frz) (fun x y q => by cases x; cases y; injection q with q1 q2; subst q1 q2; rfl)).mp (other 2 (by decide))
  have e3 : (c.without x.id).asleep = c.asleep := (List.map_inj_right (f := Spot.asleep) (fun _ _ q => Spot.asleep.inj q)).mp (other 3 (by decide))
  have nd1 := nd_row h.nd 1
  have nd1 : ((c.future.map fut).map sid).Nodup := nd1
  rw [e, List.map_cons, List.map_cons, List.nodup_cons] at nd1
  have e1 : (c.without x.id).future = r := by
    show c.future.filter (fun y => y.2.id != x.id) = r
    rw [e, List.filter_cons_of_neg (by simp)]
    refine List.filter_eq_self.mpr fun y hy => ?_
    have : y.2.id ≠ x.id := fun q => nd1.1 (by
      show x.id ∈ _
      rw [← q, List.map_map]; exact List.mem_map_of_mem (f := sid ∘ fut) hy)
    simpa using this
  have mk : ∀ a : Cal, a = ⟨a.clock, a.current, a.future, a.frozen, a.asleep⟩ := fun a => rfl
  show Cal.mk c.clock (putCurrent x (c.without x.id).current) (c.without x.id).future (c.without x.id).frozen (c.without x.id).asleep = _
  rw [e0, e1, e2, e3]
theorem Snd.popped (h : Snd c) {d : Nat} {x : Item} {r : List (Nat × Item)} (e : c.future = (d, x) :: r) : Snd { c with current := putCurrent x c.current, future := r } := by
  have hs : fut (d, x) ∈ spAll c := mem_all_of (w := 1) (by show fut (d, x) ∈ c.future.map fut; rw [e]; exact List.mem_cons_self ..)
  rw [← pop_head h e]
  exact h.move (s := fut (d, x)) (s' := .current x) hs rfl (h.ok _ hs).item
/-- the clock may leap to the least due -/
theorem Snd.leap (h : Snd c) {t : Nat} (h1 : c.clock ≤ t) (h2 : t ≤ 1000000000000000) (hf : ∀ x ∈ c.future, t ≤ x.1) : Snd { c with clock := t } := by
  refine ⟨h2, h.sz, h.nd, fun s hs => ?_, h.ord⟩
  have hs : s ∈ spAll c := hs
  have ok := h.ok s hs
  cases s with
  | current x => exact ok
  | asleep x => exact ok
  | frozen r x => exact ok
  | future d x =>
    have hm := mem_all.mp hs
    obtain ⟨y, hy, ey⟩ := List.mem_map.mp (show Spot.future d x ∈ c.future.map fut from hm)
    have : y = (d, x) := by cases y; injection ey with q1 q2; subst q1 q2; rfl
    subst this
    have := hf _ hy
    have h3 : d ≤ c.clock + 10000000000000 := ok.2.2.2
    exact ⟨ok.1, ok.2.1, this, by show d ≤ t + 10000000000000; omega⟩
/-- things of one due at the beginning go over one after another -/
theorem Snd.popAll : ∀ {a : List (Nat × Item)} {c : Cal} {b : List (Nat × Item)}, Snd c → c.future = a ++ b → Snd { c with current := allIn a c.current, future := b }
  | [], c, b, h, e => by
    have : { c with current := allIn [] c.current, future := b } = c := by cases c; cases e; rfl
    rw [this]; exact h
  | (d, x) :: a, c, b, h, e => by
    have h1 := h.popped (d := d) (x := x) (r := a ++ b) e
    have := Snd.popAll (a := a) (b := b) h1 rfl
    exact this
theorem split_due {d : Nat} : ∀ {l : List (Nat × Item)}, l.Pairwise (fun a b => a.1 ≤ b.1) → (∀ x ∈ l, d ≤ x.1) → l = (l.filter fun y => y.1 == d) ++ l.filter fun y => y.1 != d
  | [], _, _ => rfl
  | y :: l, s, h => by
    rw [List.pairwise_cons] at s
    have hy := h y (List.mem_cons_self ..)
    by_cases e : y.1 = d
    · rw [List.filter_cons_of_pos (by simpa using e), List.filter_cons_of_neg (by simp [e]), List.cons_append]
      exact congrArg (y :: ·) (split_due s.2 fun x hx => h x (List.mem_cons_of_mem _ hx))
    · have none : (y :: l).filter (fun y => y.1 == d) = [] := List.filter_eq_nil_iff.mpr fun z hz => by
        rcases List.mem_cons.mp hz with rfl | hz
        · simpa using e
        · have := s.1 z hz
          simp only [beq_iff_eq]; omega
      have all : (y :: l).filter (fun y => y.1 != d) = y :: l := List.filter_eq_self.mpr fun z hz => by
        rcases List.mem_cons.mp hz with rfl | hz
        · simpa using e
        · have := s.1 z hz
          simp only [bne_iff_ne, ne_eq]; omega
      rw [none, all]; rfl
theorem fut_head_least (h : Snd c) {d : Nat} {x : Item} {r : List (Nat × Item)} (e : c.future = (d, x) :: r) : ∀ y ∈ c.future, d ≤ y.1 := fun y hy => by
  have s := h.fut_sorted
  rw [e] at hy s
  rcases List.mem_cons.mp hy with rfl | hy
  · exact Nat.le_refl _
  · exact (List.pairwise_cons.mp s).1 y hy
theorem due_nil' (e : c.future = []) : c.due = none := by unfold Cal.due; rw [e]; rfl
theorem due_cons' {d : Nat} {x : Item} {r : List (Nat × Item)} (e : c.future = (d, x) :: r) : c.due = some d := by unfold Cal.due; rw [e]; rfl
/-- a turn, where the future chain begins with a (all of one due) and goes on with b (all of later ones) -/
theorem turned_eq {d : Nat} {a b : List (Nat × Item)} (e : c.future = a ++ b) (ha : a ≠ []) (h1 : ∀ y ∈ a, y.1 = d) (h2 : ∀ y ∈ b, y.1 ≠ d) :
    turned c = some ({ c with clock := d, current := allIn a c.current, future := b }, a.map fun y => y.2.id) := by
  have f1 : (a ++ b).filter (fun y => y.1 == d) = a := by
    rw [List.filter_append, List.filter_eq_self.mpr fun y hy => by simpa using h1 y hy, List.filter_eq_nil_iff.mpr fun y hy => by simpa using h2 y hy, List.append_nil]
  have f2 : (a ++ b).filter (fun y => y.1 != d) = b := by
    rw [List.filter_append, List.filter_eq_nil_iff.mpr fun y hy => by simpa using h1 y hy, List.filter_eq_self.mpr fun y hy => by simpa using h2 y hy, List.nil_append]
  cases a with
  | nil => exact absurd rfl ha
  | cons y a =>
    have hd : y.1 = d := h1 y (List.mem_cons_self ..)
    unfold turned
    rw [e]
    obtain ⟨y1, y2⟩ := y
    have hd : y1 = d := hd
    subst hd
    have f1' : ((y1, y2) :: (a ++ b)).filter (fun y => y.1 == y1) = (y1, y2) :: a := f1
    have f2' : ((y1, y2) :: (a ++ b)).filter (fun y => y.1 != y1) = b := f2
    show some ({ c with clock := y1, current := allIn (((y1, y2) :: (a ++ b)).filter fun y => y.1 == y1) c.current, future := ((y1, y2) :: (a ++ b)).filter fun y => y.1 != y1 }, (((y1, y2) :: (a ++ b)).filter fun y => y.1 == y1).map fun y => y.2.id) = _
    rw [f1', f2']
/-- how the future chain falls apart by its least due -/
theorem fut_parts (h : Snd c) {d : Nat} {x : Item} {r : List (Nat × Item)} (e : c.future = (d, x) :: r) : ∃ a b, c.future = (d, x) :: a ++ b ∧ (∀ y ∈ (d, x) :: a, y.1 = d) ∧ ∀ y ∈ b, d < y.1 := by
  have s := split_due h.fut_sorted (fut_head_least h e)
  have e1 : c.future.filter (fun y => y.1 == d) = (d, x) :: r.filter (fun y => y.1 == d) := by rw [e, List.filter_cons_of_pos (by simp)]
  refine ⟨r.filter (fun y => y.1 == d), c.future.filter (fun y => y.1 != d), ?_, fun y hy => ?_, fun y hy => ?_⟩
  · rw [← e1]; exact s
  · rw [← e1] at hy; simpa using (List.mem_filter.mp hy).2
  · have h1 := fut_head_least h e y (List.mem_filter.mp hy).1
    have h2 : y.1 ≠ d := by simpa using (List.mem_filter.mp hy).2
    omega
theorem Snd.turned {r : Cal × List Nat} (h : Snd c) (e : Vbdead.turned c = some r) (ht : ∀ d, c.due = some d → d ≤ 1000000000000000) : Snd r.1 := by
  cases ef : c.future with
  | nil => unfold Vbdead.turned at e; rw [ef] at e; cases e
  | cons y l =>
    obtain ⟨d, x⟩ := y
    obtain ⟨a, b, e1, h1, h2⟩ := fut_parts h ef
    rw [turned_eq (a := (d, x) :: a) e1 (by simp) h1 (fun y hy => by have := h2 y hy; omega)] at e
    cases e
    have hok := h.fut_ok (x := (d, x)) (by rw [ef]; exact List.mem_cons_self ..)
    have hl := h.leap (t := d) hok.2.2.1 (ht d (due_cons' ef)) (fut_head_least h ef)
    exact hl.popAll (a := (d, x) :: a) (b := b) e1
theorem turned_len {r : Cal × List Nat} (e : Vbdead.turned c = some r) : r.1.future.length < c.future.length := by
  unfold Vbdead.turned at e
  cases ef : c.future with
  | nil => rw [ef] at e; cases e
  | cons y l =>
    obtain ⟨d, x⟩ := y
    rw [ef] at e
    cases e
    show ((((d, x) :: l).filter fun y => y.1 != d).length) < (l.length + 1)
    rw [List.filter_cons_of_neg (by simp)]
    exact Nat.lt_succ_of_le (List.length_filter_le ..)
/-- until, one turn at a time: with enough turns allowed the count does not matter -/
theorem turnsTo_stop {t n : Nat} (h : ∀ d, c.due = some d → t < d) : turnsTo t n c = ({ c with clock := t }, 0, []) := by
  cases n with
  | zero => rfl
  | succ n =>
    rw [turnsTo]
    cases e : c.due with
    | none => rfl
    | some d =>
      cases e2 : Vbdead.turned c with
      | none => rfl
      | some r => simp only; rw [if_neg (by have := h d e; omega)]
theorem turnsTo_go {t n d : Nat} {r : Cal × List Nat} (e : c.due = some d) (e2 : Vbdead.turned c = some r) (h : d ≤ t) : turnsTo t (n + 1) c = ((turnsTo t n r.1).1, (turnsTo t n r.1).2.1 + 1, r.2 ++ (turnsTo t n r.1).2.2) := by
  rw [turnsTo, e, e2]
  simp only [if_pos h]
theorem turned_some {d : Nat} (e : c.due = some d) : ∃ r, Vbdead.turned c = some r := by
  unfold Cal.due at e
  unfold Vbdead.turned
  cases ef : c.future with
  | nil => rw [ef] at e; cases e
  | cons y l => exact ⟨_, rfl⟩
theorem turned_clock {d : Nat} {r : Cal × List Nat} (e : c.due = some d) (e2 : Vbdead.turned c = some r) : r.1.clock = d := by
  unfold Vbdead.turned at e2
  cases ef : c.future with
  | nil => rw [ef] at e2; cases e2
  | cons y l =>
    obtain ⟨d', x⟩ := y
    rw [due_cons' ef] at e
    cases e
    rw [ef] at e2
    cases e2
    rfl
theorem Snd.turnsTo {t : Nat} (ht : t ≤ 1000000000000000) : ∀ {n : Nat} {c : Cal}, Snd c → c.clock ≤ t → c.future.length ≤ n → Snd (Vbdead.turnsTo t n c).1
  | n, c, h, hc, hn => by
    cases e : c.due with
    | none =>
      rw [turnsTo_stop (by rw [e]; intro d q; cases q)]
      refine h.leap hc ht fun x hx => ?_
      unfold Cal.due at e
      cases ef : c.future with
      | nil => rw [ef] at hx; cases hx
      | cons y l => rw [ef] at e; cases e
    | some d =>
      by_cases hd : d ≤ t
      · obtain ⟨r, e2⟩ := turned_some e
        have hl := turned_len e2
        cases n with
        | zero => omega
        | succ n =>
          rw [turnsTo_go e e2 hd]
          exact Snd.turnsTo ht (n := n) (h.turned e2 (by rw [e]; intro d' q; cases q; omega)) (by rw [turned_clock e e2]; exact hd) (by omega)
      · rw [turnsTo_stop (by rw [e]; intro d' q; cases q; omega)]
        refine h.leap hc ht fun x hx => ?_
        cases ef : c.future with
        | nil => rw [ef] at hx; cases hx
        | cons y l =>
          obtain ⟨d', x'⟩ := y
          rw [due_cons' ef] at e
          cases e
          have := fut_head_least h ef x hx
          omega
/-- slip -/
theorem Snd.slipped (h : Snd c) {d : Nat} (hd : ∀ x ∈ c.future, x.1 + d ≤ c.clock + 10000000000000) : Snd { c with future := c.future.map fun x => (x.1 + d, x.2) } := by
  have hrow : ∀ w, w ≠ 1 → sp { c with future := c.future.map fun x => (x.1 + d, x.2) } w = sp c w := fun w hw => by
    match w with
    | 0 => rfl
    | 1 => exact absurd rfl hw
    | 2 => rfl
    | 3 => rfl
    | _ + 4 => rfl
  have h1 : sp { c with future := c.future.map fun x => (x.1 + d, x.2) } 1 = (c.future.map fun x => (x.1 + d, x.2)).map fut := rfl
  have ids : (spAll { c with future := c.future.map fun x => (x.1 + d, x.2) }).map sid = (spAll c).map sid := by
    simp only [spAll, List.map_append]
    rw [hrow 0 (by decide), hrow 2 (by decide), hrow 3 (by decide), h1]
    simp only [sp, List.map_map]
    rfl
  refine ⟨h.clk, ?_, ?_, fun s hs => ?_, fun w => ?_⟩
  · have := congrArg List.length ids
    rw [List.length_map, List.length_map] at this
    rw [this]; exact h.sz
  · unfold NdIds; rw [ids]; exact h.nd
  · rw [mem_all] at hs
    by_cases q : sw s = 1
    · rw [q, h1] at hs
      obtain ⟨y, hy, rfl⟩ := List.mem_map.mp hs
      obtain ⟨x, hx, rfl⟩ := List.mem_map.mp hy
      have ok := h.fut_ok hx
      have h3 : c.clock ≤ x.1 := ok.2.2.1
      exact ⟨ok.1, ok.2.1, by show c.clock ≤ x.1 + d; omega, hd x hx⟩
    · rw [hrow _ q] at hs
      have ok := h.ok s (mem_all.mpr hs)
      cases s with
      | future t x => exact absurd rfl q
      | current x => exact ok
      | frozen t x => exact ok
      | asleep x => exact ok
  · by_cases q : w = 1
    · subst q
      rw [h1, List.pairwise_map, List.pairwise_map]
      exact h.fut_sorted.imp fun {a b} z => by
        show ((a.1 + d : Nat) : Int) ≤ ((b.1 + d : Nat) : Int)
        omega
    · rw [hrow w q]; exact h.ord w
theorem Snd.loaded {l : List Int} {d : Cal} (e : Vbdead.loaded l = some d) : Snd d := by
  unfold Vbdead.loaded at e
  cases q : parsed l with
  | none => rw [q] at e; cases e
  | some x =>
    rw [q] at e
    simp only at e
    by_cases z : sound x = true
    · rw [if_pos z] at e; cases e; exact sound_iff.mp z
    · rw [if_neg z] at e; cases e
end
end WM
end
section
set_option linter.all false
/-! What the calls 13 to 22 tell, of the rows and of the things by their ids. -/
namespace WM
open Vbdead
section
variable {c : Cal} {clock : Int} {rows : Rows} {th : Ths} {n : Nat}
theorem Good.row0 (G : Good c clock rows th n) : rows 0 = c.current.map fun x => (x.id : Int) := by
  rw [G.row 0 (by decide)]; show (c.current.map Spot.current).map sidI = _; rw [List.map_map]; rfl
theorem Good.row1 (G : Good c clock rows th n) : rows 1 = c.future.map fun x => (x.2.id : Int) := by
  rw [G.row 1 (by decide)]; show (c.future.map fut).map sidI = _; rw [List.map_map]; rfl
theorem chainIds_sp {w : Nat} (hw : w < 4) : c.chainIds (w : Int) = (sp c w).map sid := by
  match w, hw with
  | 0, _ => show c.current.map (fun x => x.id) = (c.current.map Spot.current).map sid; rw [List.map_map]; rfl
  | 1, _ => show c.future.map (fun x => x.2.id) = (c.future.map fut).map sid; rw [List.map_map]; rfl
  | 2, _ => show c.frozen.map (fun x => x.2.id) = (c.frozen.map frz).map sid; rw [List.map_map]; rfl
  | 3, _ => show c.asleep.map (fun x => x.id) = (c.asleep.map Spot.asleep).map sid; rw [List.map_map]; rfl
theorem Good.rowIds (G : Good c clock rows th n) {w : Nat} (hw : w < 4) : rows w = (c.chainIds (w : Int)).map Int.ofNat := by
  rw [G.row w hw, chainIds_sp hw, List.map_map]; rfl
theorem Good.thAt (G : Good c clock rows th n) {s : Spot} {w : Nat} (hs : s ∈ sp c w) : th (sidI s) = some (thOf s) := by
  rw [G.th, spot_of_mem G.snd.nd (mem_all_of hs)]; rfl
theorem Good.thCur (G : Good c clock rows th n) {x : Item} (hx : x ∈ c.current) : th (x.id : Int) = some (thOf (.current x)) :=
  G.thAt (w := 0) (s := .current x) (List.mem_map_of_mem (f := Spot.current) hx)
theorem Good.thFut (G : Good c clock rows th n) {x : Nat × Item} (hx : x ∈ c.future) : th (x.2.id : Int) = some (thOf (fut x)) :=
  G.thAt (w := 1) (s := fut x) (List.mem_map_of_mem (f := fut) hx)
theorem Good.rowLen (G : Good c clock rows th n) {w : Nat} (hw : w < 4) : (rows w).length ≤ 2000 := by
  rw [G.row w hw, List.length_map]
  refine Nat.le_trans ?_ G.snd.sz
  unfold spAll
  simp only [List.length_append]
  match w, hw with
  | 0, _ => omega
  | 1, _ => omega
  | 2, _ => omega
  | 3, _ => omega
/-! ### ready, first -/
def readyN (l : List Item) : List Int := (l.filter fun x => x.held == 0).map fun x => (x.id : Int)
theorem readyN_all : readyN c.current = c.ready.map Int.ofNat := by unfold readyN Cal.ready; rw [List.map_map]; rfl
theorem readyN_yes {l : List Item} {x : Item} (h : x.held = 0) : readyN (l ++ [x]) = readyN l ++ [(x.id : Int)] := by
  unfold readyN; rw [List.filter_append, List.map_append]; simp [h]
theorem readyN_no {l : List Item} {x : Item} (h : x.held ≠ 0) : readyN (l ++ [x]) = readyN l := by
  unfold readyN; rw [List.filter_append, List.map_append]; simp [h]
theorem take_snoc {α : Type} {l : List α} {i : Nat} {x : α} (h : l[i]? = some x) : l.take (i + 1) = l.take i ++ [x] := by
  rw [List.take_succ, h]; rfl
theorem readyN_len (l : List Item) : (readyN l).length ≤ l.length := by unfold readyN; rw [List.length_map]; exact List.length_filter_le ..
theorem headD_ready {l : List Nat} {x : Int} (h : (l.map Int.ofNat)[0]? = some x) : ((l.headD 0 : Nat) : Int) = x := by
  cases l with
  | nil => cases h
  | cons a l => exact Option.some.inj h
/-! ### where -/
theorem before_at : ∀ {ids : List Nat} {k : Nat}, k ∈ ids → ids[(ids.takeWhile fun x => x != k).length]? = some k ∧ ∀ m x, m < (ids.takeWhile fun x => x != k).length → ids[m]? = some x → x ≠ k
  | [], _, h => by cases h
  | a :: ids, k, h => by
    by_cases e : a = k
    · subst e
      rw [List.takeWhile_cons_of_neg (by simp)]
      exact ⟨rfl, fun m x hm => absurd hm (Nat.not_lt_zero _)⟩
    · rw [List.takeWhile_cons_of_pos (by simpa using e)]
      have h' : k ∈ ids := by
        rcases List.mem_cons.mp h with q | q
        · exact absurd q.symm e
        · exact q
      obtain ⟨h1, h2⟩ := before_at h'
      refine ⟨by simpa using h1, fun m x hm hx => ?_⟩
      cases m with
      | zero =>
        have : a = x := by simpa using hx
        rw [← this]; exact e
      | succ m => exact h2 m x (Nat.lt_of_succ_lt_succ hm) (by simpa using hx)
theorem where_eq (s : Spot) : c.whereabouts s = [(sw s : Int), (thOf s).pri, (thOf s).hol, (if (thOf s).chn = 1 then (thOf s).due else (thOf s).rst), before (sid s) (c.chainIds (sw s : Int))] := by cases s <;> rfl
theorem st_where_no {id : Int} (e : c.spot id = none) : step c (.where_ id) = (c, [-5]) := by simp only [step, e]
theorem st_where_ok {id : Int} {s : Spot} (e : c.spot id = some s) : step c (.where_ id) = (c, 0 :: c.whereabouts s) := by simp only [step, e]
/-! ### told -/
def tellS : Spot → List Int
  | .current x => [(x.id : Int), x.prio, (x.held : Int)]
  | .future t x => [(x.id : Int), x.prio, (t : Int)]
  | .frozen t x => [(x.id : Int), x.prio, (x.held : Int), (t : Int)]
  | .asleep x => [(x.id : Int), x.prio, (x.held : Int)]
theorem tellS_eq (s : Spot) : tellS s = if (thOf s).chn = 1 then [(thOf s).num, (thOf s).pri, (thOf s).due] else if (thOf s).chn = 2 then [(thOf s).num, (thOf s).pri, (thOf s).hol, (thOf s).rst] else [(thOf s).num, (thOf s).pri, (thOf s).hol] := by cases s <;> rfl
theorem tellS_len (s : Spot) : (tellS s).length ≤ 4 := by cases s <;> simp [tellS]
def part (c : Cal) (w : Nat) : List Int := ((sp c w).length : Int) :: (sp c w).flatMap tellS
def parts (c : Cal) : Nat → List Int
  | 0 => [(c.clock : Int)]
  | w + 1 => parts c w ++ part c w
theorem tell_parts : tell c = parts c 4 := by
  have e0 : c.current.flatMap tellItem = (sp c 0).flatMap tellS := by show _ = (c.current.map Spot.current).flatMap tellS; rw [List.flatMap_map]; rfl
  have e1 : (c.future.flatMap fun x => [(x.2.id : Int), x.2.prio, (x.1 : Int)]) = (sp c 1).flatMap tellS := by show _ = (c.future.map fut).flatMap tellS; rw [List.flatMap_map]; rfl
  have e2 : (c.frozen.flatMap fun x => tellItem x.2 ++ [(x.1 : Int)]) = (sp c 2).flatMap tellS := by show _ = (c.frozen.map frz).flatMap tellS; rw [List.flatMap_map]; rfl
  have e3 : c.asleep.flatMap tellItem = (sp c 3).flatMap tellS := by show _ = (c.asleep.map Spot.asleep).flatMap tellS; rw [List.flatMap_map]; rfl
  unfold tell
  rw [e0, e1, e2, e3]
  simp only [parts, part, sp, List.length_map]
  simp
theorem flat_len : ∀ l : List Spot, (l.flatMap tellS).length ≤ 4 * l.length
  | [] => Nat.le_refl _
  | s :: l => by
    rw [List.flatMap_cons, List.length_append, List.length_cons]
    have := flat_len l
    have := tellS_len s
    omega
theorem flat_snoc {l : List Spot} {i : Nat} {s : Spot} (h : l[i]? = some s) : (l.take (i + 1)).flatMap tellS = (l.take i).flatMap tellS ++ tellS s := by
  rw [take_snoc h, List.flatMap_append]; simp
theorem parts_len (h : Snd c) : ∀ w, w ≤ 4 → (parts c w).length ≤ 1 + w * 8001
  | 0, _ => by simp [parts]
  | w + 1, hw => by
    have h1 := parts_len h w (by omega)
    have h2 : (sp c w).length ≤ 2000 := by
      refine Nat.le_trans ?_ h.sz
      unfold spAll
      simp only [List.length_append]
      match w, hw with
      | 0, _ => omega
      | 1, _ => omega
      | 2, _ => omega
      | 3, _ => omega
    have h3 := flat_len (sp c w)
    simp only [parts, part, List.length_append, List.length_cons]
    omega
/-! ### chain, sizes, next -/
theorem st_chain_no {w : Int} (h : ¬ (0 ≤ w ∧ w ≤ 3)) : step c (.chain w) = (c, [-13]) := by
  show (if w < 0 ∨ 3 < w then _ else _) = _
  rw [if_pos (by omega)]
theorem st_chain_ok {w : Nat} (h : w < 4) : step c (.chain (w : Int)) = (c, 0 :: nats (c.chainIds (w : Int))) := by
  show (if (w : Int) < 0 ∨ 3 < (w : Int) then _ else _) = _
  rw [if_neg (by omega)]
theorem nats_eq (l : List Nat) : nats l = (l.length : Int) :: l.map Int.ofNat := rfl
theorem st_next_no (e : c.future = []) : step c .next = (c, [-11]) := by simp only [step, due_nil' e]
theorem st_next_ok {d : Nat} {x : Item} {a b : List (Nat × Item)} (e : c.future = (d, x) :: a ++ b) (h1 : ∀ y ∈ (d, x) :: a, y.1 = d) (h2 : ∀ y ∈ b, d < y.1) : step c .next = (c, [0, (d : Int), ((((d, x) :: a).length : Nat) : Int)]) := by
  have ed : c.due = some d := due_cons' (r := a ++ b) e
  have f1 : c.future.filter (fun y => y.1 == d) = (d, x) :: a := by
    rw [e, List.filter_append, List.filter_eq_self.mpr fun y hy => by simpa using h1 y hy, List.filter_eq_nil_iff.mpr fun y hy => by have := h2 y hy; simp; omega, List.append_nil]
  simp only [step, ed, f1]
/-! ### turn, until -/
theorem st_turn_no (e : c.future = []) : step c .turn = (c, [-11]) := by simp only [step, Vbdead.turn, due_nil' e]
theorem st_turn_late {d : Nat} (e : c.due = some d) (h : 1000000000000000 < d) : step c .turn = (c, [-12]) := by
  have : END < d := by rw [END_eq]; exact h
  simp only [step, Vbdead.turn, e, if_pos this]
theorem st_turn_ok {d : Nat} {r : Cal × List Nat} (e : c.due = some d) (h : d ≤ 1000000000000000) (e2 : Vbdead.turned c = some r) : step c .turn = (r.1, 0 :: (r.1.clock : Int) :: nats r.2) := by
  have : ¬ END < d := by rw [END_eq]; omega
  simp only [step, Vbdead.turn, e, if_neg this, e2]
theorem st_until_no {t : Int} (h : ¬ ((c.clock : Int) ≤ t ∧ t ≤ 1000000000000000)) : step c (.until_ t) = (c, [-6]) := by
  have : t < (c.clock : Int) ∨ (END : Int) < t := by rw [END_eq]; omega
  simp only [step, until_, if_pos this]
theorem st_until_ok {t : Nat} (h : c.clock ≤ t ∧ t ≤ 1000000000000000) : step c (.until_ (t : Int)) = ((turnsTo t c.future.length c).1, 0 :: ((turnsTo t c.future.length c).2.1 : Int) :: nats (turnsTo t c.future.length c).2.2) := by
  have : ¬ ((t : Int) < (c.clock : Int) ∨ (END : Int) < (t : Int)) := by rw [END_eq]; omega
  simp only [step, until_, if_neg this, Int.toNat_natCast]
/-- the clock leaps: the program's state beside it -/
theorem Good.leap (G : Good c clock rows th n) {t : Nat} (h1 : c.clock ≤ t) (h2 : t ≤ 1000000000000000) (hf : ∀ x ∈ c.future, t ≤ x.1) : Good { c with clock := t } (t : Int) rows th n :=
  ⟨rfl, fun w hw => by rw [G.row w hw]; rfl, fun id => by rw [G.th id]; rfl, by rw [G.n]; rfl, G.snd.leap h1 h2 hf⟩
/-! ### slip -/
def slipS (d : Nat) : Spot → Spot
  | .future t x => .future (t + d) x
  | s => s
def slipC (c : Cal) (d : Nat) : Cal := { c with future := c.future.map fun x => (x.1 + d, x.2) }
theorem sid_slipS (d : Nat) (s : Spot) : sid (slipS d s) = sid s := by cases s <;> rfl
theorem sp_slip (d w : Nat) : sp (slipC c d) w = (sp c w).map (slipS d) := by
  match w with
  | 0 => show c.current.map Spot.current = (c.current.map Spot.current).map (slipS d); rw [List.map_map]; rfl
  | 1 => show (c.future.map fun x => (x.1 + d, x.2)).map fut = (c.future.map fut).map (slipS d); rw [List.map_map, List.map_map]; rfl
  | 2 => show c.frozen.map frz = (c.frozen.map frz).map (slipS d); rw [List.map_map]; rfl
  | 3 => show c.asleep.map Spot.asleep = (c.asleep.map Spot.asleep).map (slipS d); rw [List.map_map]; rfl
  | _ + 4 => rfl
theorem all_slip (d : Nat) : spAll (slipC c d) = (spAll c).map (slipS d) := by simp only [spAll, sp_slip, List.map_append]
theorem spot_slip (d : Nat) (id : Int) : (slipC c d).spot id = (c.spot id).map (slipS d) := by
  rw [spot_eq, spot_eq, all_slip, find_map']
  have : (fun s => sidI (slipS d s) == id) = fun s => sidI s == id := by
    funext s
    show ((sid (slipS d s) : Int) == id) = _
    rw [sid_slipS]
  rw [this]
def lateTh (d : Nat) (t : Th) : Th := { t with due := t.due + (d : Int) }
theorem thOf_slipS (d : Nat) (s : Spot) : thOf (slipS d s) = if sw s = 1 then lateTh d (thOf s) else thOf s := by
  cases s with
  | future t x => rfl
  | current x => rfl
  | frozen t x => rfl
  | asleep x => rfl
/-- the things of the ids l are later by d -/
def lateTo (th : Ths) (d : Nat) (l : List Int) : Ths := fun j => if j ∈ l then (th j).map (lateTh d) else th j
theorem Good.slipped (G : Good c clock rows th n) {d : Nat} (hd : ∀ x ∈ c.future, x.1 + d ≤ c.clock + 10000000000000) : Good (slipC c d) clock rows (lateTo th d (rows 1)) n := by
  refine ⟨G.clk, fun w hw => ?_, fun id => ?_, by rw [all_slip, List.length_map]; exact G.n, G.snd.slipped hd⟩
  · rw [sp_slip, List.map_map, G.row w hw]
    refine List.map_congr_left fun s _ => ?_
    show (sid s : Int) = (sid (slipS d s) : Int)
    rw [sid_slipS]
  · rw [spot_slip]
    unfold lateTo
    rw [G.th]
    cases e : c.spot id with
    | none => split <;> rfl
    | some s =>
      obtain ⟨h1, h2⟩ := spot_some_mem e
      show (if id ∈ rows 1 then some (lateTh d (thOf s)) else some (thOf s)) = some (thOf (slipS d s))
      rw [thOf_slipS]
      by_cases q : sw s = 1
      · have : id ∈ rows 1 := by
          rw [G.row 1 (by decide), ← h2]
          refine List.mem_map_of_mem (f := sidI) ?_
          have := mem_all.mp h1
          rw [q] at this; exact this
        rw [if_pos this, if_pos q]
      · have : ¬ id ∈ rows 1 := fun z => by
          rw [G.row 1 (by decide)] at z
          obtain ⟨y, hy, ey⟩ := List.mem_map.mp z
          have h3 := spot_of_mem G.snd.nd (mem_all_of hy)
          rw [ey, e] at h3
          have : s = y := Option.some.inj h3
          subst this
          exact q (mem_sp_w hy)
        rw [if_neg this, if_neg q]
theorem lateTo_snoc {d : Nat} {l : List Int} {i : Int} {t : Th} (no : i ∉ l) (h : th i = some t) : lateTo th d (l ++ [i]) = at1 (lateTo th d l) i (some (lateTh d t)) := by
  funext j
  unfold lateTo
  by_cases q : j = i
  · subst q
    rw [at1_same, if_pos (by simp), h]; rfl
  · rw [at1_ne q]
    by_cases z : j ∈ l
    · rw [if_pos z, if_pos (by simp [z])]
    · rw [if_neg z, if_neg (by simp [z, q])]
theorem st_slip_6 {d : Int} (h : ¬ (0 ≤ d ∧ d ≤ 10000000000000)) : step c (.slip d) = (c, [-6]) := by
  simp only [step, Vbdead.slip, timeOk_false h, done]; rfl
theorem st_slip_12 {d : Nat} {a : List (Nat × Item)} {l : Nat × Item} (h : d ≤ 10000000000000) (e : c.future = a ++ [l]) (hl : c.clock + 10000000000000 < l.1 + d) : step c (.slip (d : Int)) = (c, [-12]) := by
  have ht : timeOk (d : Int) = true := timeOk_iff.mpr (by omega)
  have ha : c.future.any (fun x => decide (c.clock + FAR < x.1 + ((d : Int)).toNat)) = true := by
    rw [e, List.any_append]
    have : c.clock + FAR < l.1 + ((d : Int)).toNat := by rw [FAR_eq, Int.toNat_natCast]; exact hl
    rw [List.any_cons, decide_eq_true this]; simp
  simp only [step, Vbdead.slip, ht, ha, done]; rfl
theorem st_slip_ok {d : Nat} (h : d ≤ 10000000000000) (hd : ∀ x ∈ c.future, x.1 + d ≤ c.clock + 10000000000000) : step c (.slip (d : Int)) = (slipC c d, [0]) := by
  have ht : timeOk (d : Int) = true := timeOk_iff.mpr (by omega)
  have ha : c.future.any (fun x => decide (c.clock + FAR < x.1 + ((d : Int)).toNat)) = false := by
    rw [List.any_eq_false]
    intro x hx
    have := hd x hx
    rw [FAR_eq, Int.toNat_natCast]
    simp; omega
  simp only [step, Vbdead.slip, ht, ha, done]; rfl
theorem fut_last {a : List (Nat × Item)} {l : Nat × Item} (h : Snd c) (e : c.future = a ++ [l]) : ∀ x ∈ c.future, x.1 ≤ l.1 := fun x hx => by
  have s := h.fut_sorted
  rw [e] at s hx
  rw [List.pairwise_append] at s
  rcases List.mem_append.mp hx with q | q
  · exact s.2.2 x q l (List.mem_singleton.mpr rfl)
  · rw [List.mem_singleton.mp q]; exact Nat.le_refl _
theorem snoc_of {α : Type} : ∀ {l : List α}, l ≠ [] → ∃ a x, l = a ++ [x]
  | [], h => absurd rfl h
  | x :: l, _ => ⟨(x :: l).dropLast, (x :: l).getLast (by simp), (List.dropLast_concat_getLast (by simp)).symm⟩
end
end WM
end
section
set_option linter.all false
/-! load: a told row read thing by thing, each put last on its chain. -/
namespace WM
open Vbdead
/-- last on its chain -/
def app (c : Cal) : Spot → Cal
  | .current x => { c with current := c.current ++ [x] }
  | .future t x => { c with future := c.future ++ [(t, x)] }
  | .frozen t x => { c with frozen := c.frozen ++ [(t, x)] }
  | .asleep x => { c with asleep := c.asleep ++ [x] }
section
variable {c : Cal} {s : Spot} {clock : Int} {rows : Rows} {th : Ths} {n : Nat}
theorem clock_app (c : Cal) (s : Spot) : (app c s).clock = c.clock := by cases s <;> rfl
theorem sp_app_same (c : Cal) (s : Spot) : sp (app c s) (sw s) = sp c (sw s) ++ [s] := by
  cases s with
  | current x => show (c.current ++ [x]).map Spot.current = _; rw [List.map_append]; rfl
  | future t x => show (c.future ++ [(t, x)]).map fut = _; rw [List.map_append]; rfl
  | frozen t x => show (c.frozen ++ [(t, x)]).map frz = _; rw [List.map_append]; rfl
  | asleep x => show (c.asleep ++ [x]).map Spot.asleep = _; rw [List.map_append]; rfl
theorem sp_app_other {w : Nat} (h : w ≠ sw s) : sp (app c s) w = sp c w := by
  match w with
  | 0 => cases s <;> first | rfl | exact absurd rfl h
  | 1 => cases s <;> first | rfl | exact absurd rfl h
  | 2 => cases s <;> first | rfl | exact absurd rfl h
  | 3 => cases s <;> first | rfl | exact absurd rfl h
  | _ + 4 => rfl
theorem perm_snoc {α : Type} (l : List α) (x : α) : (l ++ [x]).Perm (x :: l) := List.perm_append_comm
theorem perm_all_app (c : Cal) (s : Spot) : (spAll (app c s)).Perm (s :: spAll c) := by
  unfold spAll
  have hp := sp_app_same c s
  cases s with
  | current x =>
    rw [sp_app_other (w := 1) (by intro q; cases q), sp_app_other (w := 2) (by intro q; cases q), sp_app_other (w := 3) (by intro q; cases q)]
    have hp : sp (app c (.current x)) 0 = sp c 0 ++ [.current x] := hp
    rw [hp]
    exact List.Perm.append_right _ (perm_snoc _ _)
  | future t x =>
    rw [sp_app_other (w := 0) (by intro q; cases q), sp_app_other (w := 2) (by intro q; cases q), sp_app_other (w := 3) (by intro q; cases q)]
    have hp : sp (app c (.future t x)) 1 = sp c 1 ++ [.future t x] := hp
    rw [hp]
    exact (List.Perm.append_left _ (List.Perm.append_right _ (perm_snoc _ _))).trans List.perm_middle
  | frozen t x =>
    rw [sp_app_other (w := 0) (by intro q; cases q), sp_app_other (w := 1) (by intro q; cases q), sp_app_other (w := 3) (by intro q; cases q)]
    have hp : sp (app c (.frozen t x)) 2 = sp c 2 ++ [.frozen t x] := hp
    rw [hp]
    refine (List.Perm.append_left _ (List.Perm.append_left _ (List.Perm.append_right _ (perm_snoc _ _)))).trans ?_
    exact (List.Perm.append_left _ List.perm_middle).trans List.perm_middle
  | asleep x =>
    rw [sp_app_other (w := 0) (by intro q; cases q), sp_app_other (w := 1) (by intro q; cases q), sp_app_other (w := 2) (by intro q; cases q)]
    have hp : sp (app c (.asleep x)) 3 = sp c 3 ++ [.asleep x] := hp
    rw [hp]
    refine (List.Perm.append_left _ (List.Perm.append_left _ (List.Perm.append_left _ (perm_snoc _ _)))).trans ?_
    exact (List.Perm.append_left _ ((List.Perm.append_left _ List.perm_middle).trans List.perm_middle)).trans List.perm_middle
theorem mem_all_app {y : Spot} : y ∈ spAll (app c s) ↔ y = s ∨ y ∈ spAll c := by rw [(perm_all_app c s).mem_iff, List.mem_cons]
/-- what a thing must be to stand last -/
structure Fits (c : Cal) (s : Spot) : Prop where
  room : (spAll c).length < 2000
  new : c.spot (sidI s) = none
  ok : okSpot c.clock s
  ord : ∀ y ∈ sp c (sw s), skey y ≤ skey s
theorem Snd.app (h : Snd c) (f : Fits c s) : Snd (WM.app c s) := by
  have new : ∀ y ∈ spAll c, sid y ≠ sid s := fun y hy q => spot_none.mp f.new y hy (by show (sid y : Int) = (sid s : Int); rw [q])
  refine ⟨by rw [clock_app]; exact h.clk, ?_, ?_, fun y hy => ?_, fun w => ?_⟩
  · have := (perm_all_app c s).length_eq
    rw [this, List.length_cons]; have := f.room; omega
  · refine ((perm_all_app c s).map sid).nodup_iff.mpr ?_
    rw [List.map_cons, List.nodup_cons]
    exact ⟨fun q => by obtain ⟨y, hy, e⟩ := List.mem_map.mp q; exact new y hy e, h.nd⟩
  · rw [clock_app]
    rcases mem_all_app.mp hy with rfl | hy
    · exact f.ok
    · exact h.ok y hy
  · by_cases e : w = sw s
    · subst e
      rw [sp_app_same, List.pairwise_append]
      exact ⟨h.ord _, by simp, fun a ha b hb => by rw [List.mem_singleton.mp hb]; exact f.ord a ha⟩
    · rw [sp_app_other e]; exact h.ord w
theorem Snd.fits (h : Snd (WM.app c s)) : Fits c s := by
  have hl := (perm_all_app c s).length_eq
  have nd := ((perm_all_app c s).map sid).nodup_iff.mp h.nd
  rw [List.map_cons, List.nodup_cons] at nd
  refine ⟨?_, spot_none.mpr fun y hy q => nd.1 ?_, ?_, fun y hy => ?_⟩
  · have := h.sz
    rw [hl, List.length_cons] at this; omega
  · have q : (sid y : Int) = (sid s : Int) := q
    have : sid y = sid s := by omega
    rw [← this]; exact List.mem_map_of_mem (f := sid) hy
  · have := h.ok s (mem_all_app.mpr (.inl rfl))
    rw [clock_app] at this; exact this
  · have := h.ord (sw s)
    rw [sp_app_same, List.pairwise_append] at this
    exact this.2.2 y hy s (List.mem_singleton.mpr rfl)
theorem Snd.of_app (h : Snd (WM.app c s)) : Snd c := by
  have hl := (perm_all_app c s).length_eq
  have nd := ((perm_all_app c s).map sid).nodup_iff.mp h.nd
  rw [List.map_cons, List.nodup_cons] at nd
  refine ⟨by have := h.clk; rw [clock_app] at this; exact this, ?_, nd.2, fun y hy => ?_, fun w => ?_⟩
  · have := h.sz
    rw [hl, List.length_cons] at this; omega
  · have := h.ok y (mem_all_app.mpr (.inr hy))
    rw [clock_app] at this; exact this
  · by_cases e : w = sw s
    · subst e
      have := h.ord (sw s)
      rw [sp_app_same, List.pairwise_append] at this
      exact this.1
    · have := h.ord w
      rw [sp_app_other e] at this; exact this
/-- the program's state with a thing more, last on its chain -/
def lastRow (rows : Rows) (t : Th) : Rows := at1 rows t.chn (rows t.chn ++ [t.num])
theorem Good.apped (G : Good c clock rows th n) (f : Fits c s) : Good (app c s) clock (lastRow rows (thOf s)) (at1 th (sidI s) (some (thOf s))) (n + 1) := by
  refine ⟨by rw [clock_app]; exact G.clk, fun w hw => ?_, fun i => ?_, by rw [(perm_all_app c s).length_eq, List.length_cons, G.n], G.snd.app f⟩
  · unfold lastRow
    by_cases e : w = (thOf s).chn
    · subst e
      rw [at1_same, num_thOf, G.row _ hw, chn_thOf, sp_app_same, List.map_append]; rfl
    · rw [at1_ne e, G.row w hw, sp_app_other (by rw [← chn_thOf]; exact e)]
  · have nd : NdIds (app c s) := (G.snd.app f).nd
    by_cases e : i = sidI s
    · subst e
      rw [at1_same, spot_of_mem nd (mem_all_app.mpr (.inl rfl))]; rfl
    · rw [at1_ne e, G.th]
      cases q : c.spot i with
      | some y =>
        obtain ⟨h1, h2⟩ := spot_some_mem q
        rw [(spot_iff nd).mpr ⟨mem_all_app.mpr (.inr h1), h2⟩]
      | none =>
        rw [spot_none.mpr fun y hy => ?_]
        rcases mem_all_app.mp hy with rfl | hy
        · exact fun z => e z.symm
        · exact spot_none.mp q y hy
/-! ### what may_be_last asks -/
def rangesB (clock : Int) (t : Th) : Bool := decide (1 ≤ t.num ∧ t.num ≤ 1000000000) && (decide (-1000 ≤ t.pri ∧ t.pri ≤ 1000) && (decide (0 ≤ t.hol ∧ t.hol ≤ 1000) &&
  (if t.chn = 1 then decide (clock ≤ t.due ∧ t.due ≤ clock + 10000000000000) else if t.chn = 2 then decide (0 < t.hol ∧ 0 ≤ t.rst ∧ t.rst ≤ 10000000000000) else true)))
def keepsB (rows : Rows) (th : Ths) (t : Th) : Bool := match (rows t.chn).getLast? with
  | none => true
  | some j => decide (keyAt th j ≤ kI t)
def mayB (clock : Int) (rows : Rows) (th : Ths) (n : Nat) (t : Th) : Bool := !(decide (2000 ≤ n) || (th t.num).isSome) && (rangesB clock t && keepsB rows th t)
theorem ranges_ok {s : Spot} (h0 : (c.clock : Int) = clock) : rangesB clock (thOf s) = true ↔ (okSpot c.clock s ∨ ∃ t x, s = .future t x ∧ okItem x ∧ c.clock ≤ t ∧ t ≤ c.clock + 10000000000000) := by
  subst h0
  unfold rangesB
  simp only [Bool.and_eq_true, decide_eq_true_eq]
  cases s with
  | current x =>
    simp only [thOf, okSpot, okItem]
    constructor
    · rintro ⟨h1, h2, h3, _⟩; exact .inl ⟨by omega, by omega, h2.1, h2.2, by omega⟩
    · rintro (h | ⟨t, x, e, _⟩)
      · exact ⟨by omega, ⟨h.2.2.1, h.2.2.2.1⟩, by omega, by simp⟩
      · cases e
  | asleep x =>
    simp only [thOf, okSpot, okItem]
    constructor
    · rintro ⟨h1, h2, h3, _⟩; exact .inl ⟨by omega, by omega, h2.1, h2.2, by omega⟩
    · rintro (h | ⟨t, x, e, _⟩)
      · exact ⟨by omega, ⟨h.2.2.1, h.2.2.2.1⟩, by omega, by simp⟩
      · cases e
  | frozen t x =>
    simp only [thOf, okSpot, okItem]
    constructor
    · rintro ⟨h1, h2, h3, h4⟩
      have h4 : (0 : Int) < (x.held : Int) ∧ (0 : Int) ≤ (t : Int) ∧ (t : Int) ≤ 10000000000000 := by simpa using h4
      exact .inl ⟨⟨by omega, by omega, h2.1, h2.2, by omega⟩, by omega, by omega⟩
    · rintro (h | ⟨t, x, e, _⟩)
      · refine ⟨by omega, ⟨h.1.2.2.1, h.1.2.2.2.1⟩, by omega, ?_⟩
        have : (0 : Int) < (x.held : Int) ∧ (0 : Int) ≤ (t : Int) ∧ (t : Int) ≤ 10000000000000 := by omega
        simpa using this
      · cases e
  | future t x =>
    simp only [thOf, okSpot, okItem]
    constructor
    · rintro ⟨h1, h2, h3, h4⟩
      have h4 : (c.clock : Int) ≤ (t : Int) ∧ (t : Int) ≤ (c.clock : Int) + 10000000000000 := by simpa using h4
      exact .inr ⟨t, x, rfl, ⟨by omega, by omega, h2.1, h2.2, by omega⟩, by omega, by omega⟩
    · rintro (h | ⟨t', x', e, h1, h2, h3⟩)
      · refine ⟨by omega, ⟨h.1.2.2.1, h.1.2.2.2.1⟩, by omega, ?_⟩
        have : (c.clock : Int) ≤ (t : Int) ∧ (t : Int) ≤ (c.clock : Int) + 10000000000000 := by omega
        simpa using this
      · injection e with e1 e2
        subst e1 e2
        refine ⟨by have := h1.1; have := h1.2.1; omega, ⟨h1.2.2.1, h1.2.2.2.1⟩, by have := h1.2.2.2.2; omega, ?_⟩
        have : (c.clock : Int) ≤ (t : Int) ∧ (t : Int) ≤ (c.clock : Int) + 10000000000000 := by omega
        simpa using this
/-- a told thing of the future chain has no holds -/
def unheld : Spot → Prop
  | .future _ x => x.held = 0
  | _ => True
theorem keeps_ok (G : Good c clock rows th n) : keepsB rows th (thOf s) = true ↔ ∀ y ∈ sp c (sw s), skey y ≤ skey s := by
  unfold keepsB
  rw [chn_thOf, kI_thOf, G.row _ (sw_lt s)]
  cases e : ((sp c (sw s)).map sidI).getLast? with
  | none =>
    have : (sp c (sw s)).map sidI = [] := List.getLast?_eq_none_iff.mp e
    have : sp c (sw s) = [] := List.map_eq_nil_iff.mp this
    rw [this]
    simp
  | some j =>
    obtain ⟨a, ha⟩ := List.getLast?_eq_some_iff.mp e
    have hne : sp c (sw s) ≠ [] := fun z => by rw [z] at ha; simp at ha
    obtain ⟨b, l, hb⟩ := snoc_of hne
    rw [hb, List.map_append] at ha
    have hj : sidI l = j := by
      have := congrArg List.getLast? ha
      simpa using this
    have hk : keyAt th j = skey l := by
      rw [← hj, keyAt_some (G.thAt (w := sw s) (by rw [hb]; simp)), kI_thOf]
    show decide (keyAt th j ≤ skey s) = true ↔ _
    rw [decide_eq_true_eq, hk, hb]
    have so := G.snd.ord (sw s)
    rw [hb, List.pairwise_append] at so
    constructor
    · intro h y hy
      rcases List.mem_append.mp hy with q | q
      · exact Int.le_trans (so.2.2 y q l (List.mem_singleton.mpr rfl)) h
      · rw [List.mem_singleton.mp q]; exact h
    · intro h
      exact h l (by simp)
theorem may_ok (G : Good c clock rows th n) (hu : unheld s) : mayB clock rows th n (thOf s) = true ↔ Snd (app c s) := by
  unfold mayB
  rw [Bool.and_eq_true, Bool.and_eq_true, ranges_ok G.clk.symm, keeps_ok G, num_thOf, G.isSome, G.n]
  constructor
  · rintro ⟨h1, h2, h3⟩
    have h1 : ¬ 2000 ≤ (spAll c).length ∧ (c.spot (sidI s)).isSome = false := by simpa using h1
    refine G.snd.app ⟨by omega, ?_, ?_, h3⟩
    · cases e : c.spot (sidI s) with
      | none => rfl
      | some y => rw [e] at h1; cases h1.2
    · rcases h2 with h2 | ⟨t, x, rfl, i1, i2, i3⟩
      · exact h2
      · exact ⟨i1, hu, i2, i3⟩
  · intro h
    have f := h.fits
    refine ⟨?_, .inl f.ok, f.ord⟩
    have := f.room
    rw [f.new]
    simp; omega
/-! ### a thing out of its numbers -/
def wid (w : Nat) : Nat := if w = 2 then 4 else 3
def thN (w : Nat) (a b x y : Int) : Th := ⟨a, b, if w = 1 then 0 else x, w, if w = 1 then x else 0, if w = 2 then y else 0⟩
def spotN (w : Nat) (a b x y : Int) : Option Spot := if a < 0 ∨ x < 0 ∨ (w = 2 ∧ y < 0) then none else match w with
  | 0 => some (.current ⟨a.toNat, b, x.toNat⟩)
  | 1 => some (.future x.toNat ⟨a.toNat, b, 0⟩)
  | 2 => some (.frozen y.toNat ⟨a.toNat, b, x.toNat⟩)
  | 3 => some (.asleep ⟨a.toNat, b, x.toNat⟩)
  | _ => none
theorem spotN_some {w : Nat} {a b x y : Int} (hw : w < 4) (h : spotN w a b x y = some s) : thN w a b x y = thOf s ∧ sw s = w ∧ unheld s := by
  unfold spotN at h
  by_cases q : a < 0 ∨ x < 0 ∨ (w = 2 ∧ y < 0)
  · rw [if_pos q] at h; cases h
  · rw [if_neg q] at h
    have ha : ((a.toNat : Nat) : Int) = a := by omega
    have hx : ((x.toNat : Nat) : Int) = x := by omega
    match w, hw, h, q with
    | 0, _, h, q => cases h; refine ⟨?_, rfl, trivial⟩; simp [thN, thOf, ha, hx]
    | 1, _, h, q => cases h; refine ⟨?_, rfl, rfl⟩; simp [thN, thOf, ha, hx]
    | 2, _, h, q =>
      cases h
      have hy : ((y.toNat : Nat) : Int) = y := by omega
      refine ⟨?_, rfl, trivial⟩; simp [thN, thOf, ha, hx, hy]
    | 3, _, h, q => cases h; refine ⟨?_, rfl, trivial⟩; simp [thN, thOf, ha, hx]
theorem spotN_none {w : Nat} {a b x y : Int} (hw : w < 4) (h0 : 0 ≤ clock) (h : spotN w a b x y = none) : mayB clock rows th n (thN w a b x y) = false := by
  unfold spotN at h
  by_cases q : a < 0 ∨ x < 0 ∨ (w = 2 ∧ y < 0)
  · have : rangesB clock (thN w a b x y) = false := by
      unfold rangesB thN
      rcases q with q | q | q
      · rw [decide_eq_false (show ¬ (1 ≤ a ∧ a ≤ 1000000000) by omega)]; rfl
      · by_cases e : w = 1
        · subst e
          simp only [if_true]
          rw [decide_eq_false (show ¬ (clock ≤ x ∧ x ≤ clock + 10000000000000) by omega)]; simp
        · simp only [e, if_false]
          rw [decide_eq_false (show ¬ (0 ≤ x ∧ x ≤ 1000) by omega)]; simp
      · obtain ⟨rfl, q⟩ := q
        have : ¬ (0 < x ∧ 0 ≤ y ∧ y ≤ 10000000000000) := by omega
        simp [this]
    unfold mayB
    rw [this]; simp
  · rw [if_neg q] at h
    match w, hw, h with
    | 0, _, h => cases h
    | 1, _, h => cases h
    | 2, _, h => cases h
    | 3, _, h => cases h
/-! ### the reading, chain by chain -/
def spotOf (w : Nat) (ns : List Int) : Option Spot := match ns with
  | [a, b, x] => spotN w a b x 0
  | [a, b, x, y] => spotN w a b x y
  | _ => none
def readP (w : Nat) : Nat → Cal → List Int → Option Cal
  | 0, c, _ => some c
  | k + 1, c, l => match spotOf w (l.take (wid w)) with
    | none => none
    | some s => if sound (app c s) = true then readP w k (app c s) (l.drop (wid w)) else none
def itemsS (w : Nat) : Nat → List Int → Option (List Spot × List Int)
  | 0, l => some ([], l)
  | k + 1, l => if wid w ≤ l.length then match spotOf w (l.take (wid w)) with
    | none => none
    | some s => (itemsS w k (l.drop (wid w))).map fun q => (s :: q.1, q.2)
    else none
def appAll (c : Cal) (ss : List Spot) : Cal := ss.foldl app c
theorem appAll_cons (c : Cal) (s : Spot) (ss : List Spot) : appAll c (s :: ss) = appAll (app c s) ss := rfl
theorem Snd.of_appAll : ∀ {ss : List Spot} {c : Cal}, Snd (appAll c ss) → Snd c
  | [], _, h => h
  | s :: ss, c, h => (Snd.of_appAll (ss := ss) (c := WM.app c s) h).of_app
theorem readP_iff {w : Nat} : ∀ {k : Nat} {c : Cal} {l : List Int} {d : Cal}, Snd c → k * wid w ≤ l.length → (readP w k c l = some d ↔ ∃ ss, itemsS w k l = some (ss, l.drop (k * wid w)) ∧ d = appAll c ss ∧ Snd d)
  | 0, c, l, d, hc, _ => by
    show some c = some d ↔ ∃ ss, some ([], l) = some (ss, l.drop (0 * wid w)) ∧ _
    rw [Nat.zero_mul, List.drop_zero]
    constructor
    · intro h; cases h; exact ⟨[], rfl, rfl, hc⟩
    · rintro ⟨ss, e, rfl, _⟩
      injection e with e; injection e with e _
      subst e; rfl
  | k + 1, c, l, d, hc, hl => by
    have e1 : (k + 1) * wid w = wid w + k * wid w := by rw [Nat.succ_mul, Nat.add_comm]
    have hw : wid w ≤ l.length := by omega
    have hl' : k * wid w ≤ (l.drop (wid w)).length := by rw [List.length_drop]; omega
    have ed : (l.drop (wid w)).drop (k * wid w) = l.drop ((k + 1) * wid w) := by rw [List.drop_drop, e1]
    rw [readP, itemsS, if_pos hw]
    cases es : spotOf w (l.take (wid w)) with
    | none =>
      simp only
      constructor
      · intro h; cases h
      · rintro ⟨ss, h, _⟩; cases h
    | some s =>
      simp only
      by_cases q : sound (app c s) = true
      · have hs := sound_iff.mp q
        rw [if_pos q, readP_iff hs hl', ed]
        constructor
        · rintro ⟨ss, h1, h2, h3⟩
          exact ⟨s :: ss, by rw [h1]; rfl, h2, h3⟩
        · rintro ⟨ss, h1, h2, h3⟩
          cases e2 : itemsS w k (l.drop (wid w)) with
          | none => rw [e2] at h1; cases h1
          | some r =>
            rw [e2] at h1
            obtain ⟨r1, r2⟩ := r
            injection h1 with h1
            injection h1 with h11 h12
            subst h11
            have h12 : r2 = l.drop ((k + 1) * wid w) := h12
            exact ⟨r1, by rw [h12], h2, h3⟩
      · rw [if_neg q]
        constructor
        · intro h; cases h
        · rintro ⟨ss, h1, h2, h3⟩
          exfalso
          cases e2 : itemsS w k (l.drop (wid w)) with
          | none => rw [e2] at h1; cases h1
          | some r =>
            rw [e2] at h1
            obtain ⟨r1, r2⟩ := r
            injection h1 with h1
            injection h1 with h11 h12
            subst h11
            have h2 : d = appAll (app c s) r1 := h2
            rw [h2] at h3
            exact q (sound_iff.mpr h3.of_appAll)
theorem readP_take {w : Nat} : ∀ {k : Nat} {c : Cal} {l : List Int}, readP w k c (l.take (k * wid w)) = readP w k c l
  | 0, _, _ => rfl
  | k + 1, c, l => by
    have e1 : (k + 1) * wid w = wid w + k * wid w := by rw [Nat.succ_mul, Nat.add_comm]
    rw [readP, readP, List.take_take, Nat.min_eq_left (by omega), List.drop_take, show (k + 1) * wid w - wid w = k * wid w by omega]
    cases spotOf w (l.take (wid w)) with
    | none => rfl
    | some s =>
      simp only
      rw [readP_take]
theorem itemsS_len {w : Nat} : ∀ {k : Nat} {l : List Int} {ss : List Spot} {t : List Int}, itemsS w k l = some (ss, t) → k * wid w ≤ l.length ∧ t = l.drop (k * wid w)
  | 0, l, ss, t, h => by
    rw [Nat.zero_mul, List.drop_zero]
    injection h with h; injection h with _ h
    exact ⟨Nat.zero_le _, h.symm⟩
  | k + 1, l, ss, t, h => by
    have e1 : (k + 1) * wid w = wid w + k * wid w := by rw [Nat.succ_mul, Nat.add_comm]
    rw [itemsS] at h
    by_cases hw : wid w ≤ l.length
    · rw [if_pos hw] at h
      cases es : spotOf w (l.take (wid w)) with
      | none => rw [es] at h; cases h
      | some s =>
        rw [es] at h
        simp only at h
        cases e2 : itemsS w k (l.drop (wid w)) with
        | none => rw [e2] at h; cases h
        | some r =>
          rw [e2] at h
          obtain ⟨r1, r2⟩ := r
          injection h with h
          injection h with h1 h2
          have h2 : r2 = t := h2
          subst h2
          obtain ⟨i1, i2⟩ := itemsS_len e2
          rw [List.length_drop] at i1
          exact ⟨by omega, by rw [i2, List.drop_drop, e1]⟩
    · rw [if_neg hw] at h; cases h
def chainP (w : Nat) (c : Cal) : List Int → Option (Cal × List Int)
  | [] => none
  | n :: r => if 0 ≤ n ∧ n.toNat * wid w ≤ r.length then (readP w n.toNat c r).map fun d => (d, r.drop (n.toNat * wid w)) else none
def goP : List Nat → Cal → List Int → Option Cal
  | [], c, l => if l = [] then some c else none
  | w :: ws, c, l => match chainP w c l with
    | none => none
    | some r => goP ws r.1 r.2
def bare (t : Nat) : Cal := ⟨t, [], [], [], []⟩
def loadP : List Int → Option Cal
  | [] => none
  | t :: l => if 0 ≤ t ∧ t ≤ 1000000000000000 then goP [0, 1, 2, 3] (bare t.toNat) l else none
def countedS (w : Nat) (l : List Int) : Option (List Spot × List Int) := counted (itemsS w) l
theorem wid_pos (w : Nat) : 1 ≤ wid w := by unfold wid; split <;> decide
theorem chainP_iff {w : Nat} {c d : Cal} {l t : List Int} (hc : Snd c) : chainP w c l = some (d, t) ↔ ∃ ss, countedS w l = some (ss, t) ∧ d = appAll c ss ∧ Snd d := by
  cases l with
  | nil =>
    constructor
    · intro h; cases h
    · rintro ⟨ss, h, _⟩; cases h
  | cons n r =>
    rw [chainP]
    show _ ↔ ∃ ss, counted (itemsS w) (n :: r) = some (ss, t) ∧ _
    rw [counted]
    by_cases q : 0 ≤ n ∧ n.toNat * wid w ≤ r.length
    · have hle : n.toNat ≤ n.toNat * wid w := Nat.le_mul_of_pos_right _ (wid_pos w)
      have q2 : ¬ (n < 0 ∨ (r.length : Int) < n) := by omega
      rw [if_pos q, if_neg q2]
      constructor
      · intro h
        cases e : readP w n.toNat c r with
        | none => rw [e] at h; cases h
        | some d' =>
          rw [e] at h
          injection h with h; injection h with h1 h2
          subst h1
          obtain ⟨ss, i1, i2, i3⟩ := (readP_iff hc q.2).mp e
          exact ⟨ss, by rw [i1]; exact congrArg (fun z => some (ss, z)) h2, i2, i3⟩
      · rintro ⟨ss, i1, i2, i3⟩
        obtain ⟨_, et⟩ := itemsS_len i1
        subst et
        rw [(readP_iff hc q.2).mpr ⟨ss, i1, i2, i3⟩]; rfl
    · rw [if_neg q]
      constructor
      · intro h; cases h
      · rintro ⟨ss, i1, _⟩
        exfalso
        by_cases q2 : n < 0 ∨ (r.length : Int) < n
        · rw [if_pos q2] at i1; cases i1
        · rw [if_neg q2] at i1
          exact q ⟨by omega, (itemsS_len i1).1⟩
/-! ### the specification's own reading -/
theorem items_S (f : Item → Spot) (w : Nat) (hw : wid w = 3) (hf : ∀ a b x : Int, spotN w a b x 0 = if a < 0 ∨ x < 0 then none else some (f ⟨a.toNat, b, x.toNat⟩)) : ∀ (k : Nat) (l : List Int), itemsS w k l = (items k l).map fun r => (r.1.map f, r.2)
  | 0, l => rfl
  | k + 1, [] => by rw [itemsS, if_neg (by rw [hw]; simp)]; rfl
  | k + 1, [a] => by rw [itemsS, if_neg (by rw [hw]; simp)]; rfl
  | k + 1, [a, b] => by rw [itemsS, if_neg (by rw [hw]; simp)]; rfl
  | k + 1, a :: b :: x :: l => by
    rw [itemsS, if_pos (by rw [hw]; simp), hw]
    show (match spotN w a b x 0 with | none => (none : Option (List Spot × List Int)) | some s => (itemsS w k l).map fun (q : List Spot × List Int) => (s :: q.1, q.2)) = _
    rw [hf, items]
    by_cases q : a < 0 ∨ x < 0
    · rw [if_pos q, if_pos q]; rfl
    · rw [if_neg q, if_neg q]
      simp only
      rw [items_S f w hw hf k l]
      cases items k l <;> rfl
theorem dues_S : ∀ (k : Nat) (l : List Int), itemsS 1 k l = (dues k l).map fun r => (r.1.map fut, r.2)
  | 0, l => rfl
  | k + 1, [] => rfl
  | k + 1, [a] => rfl
  | k + 1, [a, b] => rfl
  | k + 1, a :: b :: x :: l => by
    rw [itemsS, if_pos (by show 3 ≤ _; simp)]
    show (match spotN 1 a b x 0 with | none => (none : Option (List Spot × List Int)) | some s => (itemsS 1 k l).map fun (q : List Spot × List Int) => (s :: q.1, q.2)) = _
    rw [dues]
    by_cases q : a < 0 ∨ x < 0
    · rw [if_pos q, spotN, if_pos (by omega)]; rfl
    · rw [if_neg q, spotN, if_neg (by omega)]
      simp only
      rw [dues_S k l]
      cases dues k l <;> rfl
theorem rests_S : ∀ (k : Nat) (l : List Int), itemsS 2 k l = (rests k l).map fun r => (r.1.map frz, r.2)
  | 0, l => rfl
  | k + 1, [] => rfl
  | k + 1, [a] => rfl
  | k + 1, [a, b] => rfl
  | k + 1, [a, b, x] => rfl
  | k + 1, a :: b :: x :: y :: l => by
    rw [itemsS, if_pos (by show 4 ≤ _; simp)]
    show (match spotN 2 a b x y with | none => (none : Option (List Spot × List Int)) | some s => (itemsS 2 k l).map fun (q : List Spot × List Int) => (s :: q.1, q.2)) = _
    rw [rests]
    by_cases q : a < 0 ∨ x < 0 ∨ y < 0
    · rw [if_pos q, spotN, if_pos (by omega)]; rfl
    · rw [if_neg q, spotN, if_neg (by omega)]
      simp only
      rw [rests_S k l]
      cases rests k l <;> rfl
theorem counted_map {α β : Type} {f : Nat → List Int → Option (α × List Int)} {g : Nat → List Int → Option (β × List Int)} {h : α → β} (e : ∀ k l, g k l = (f k l).map fun r => (h r.1, r.2)) (l : List Int) : counted g l = (counted f l).map fun r => (h r.1, r.2) := by
  cases l with
  | nil => rfl
  | cons n r =>
    rw [counted, counted]
    by_cases q : n < 0 ∨ (r.length : Int) < n
    · rw [if_pos q, if_pos q]; rfl
    · rw [if_neg q, if_neg q, e]
theorem counted0 (l : List Int) : countedS 0 l = (counted items l).map fun r => (r.1.map Spot.current, r.2) :=
  counted_map (items_S Spot.current 0 rfl (fun a b x => by
    unfold spotN
    by_cases q : a < 0 ∨ x < 0
    · rw [if_pos q, if_pos (by omega)]
    · rw [if_neg q, if_neg (by omega)]; rfl)) l
theorem counted3 (l : List Int) : countedS 3 l = (counted items l).map fun r => (r.1.map Spot.asleep, r.2) :=
  counted_map (items_S Spot.asleep 3 rfl (fun a b x => by
    unfold spotN
    by_cases q : a < 0 ∨ x < 0
    · rw [if_pos q, if_pos (by omega)]
    · rw [if_neg q, if_neg (by omega)]; rfl)) l
theorem counted1 (l : List Int) : countedS 1 l = (counted dues l).map fun r => (r.1.map fut, r.2) := counted_map dues_S l
theorem counted2 (l : List Int) : countedS 2 l = (counted rests l).map fun r => (r.1.map frz, r.2) := counted_map rests_S l
theorem appAll0 : ∀ (xs : List Item) (c : Cal), appAll c (xs.map Spot.current) = { c with current := c.current ++ xs }
  | [], c => by simp [appAll]
  | x :: xs, c => by rw [List.map_cons, appAll_cons, appAll0 xs]; simp [app]
theorem appAll1 : ∀ (xs : List (Nat × Item)) (c : Cal), appAll c (xs.map fut) = { c with future := c.future ++ xs }
  | [], c => by simp [appAll]
  | x :: xs, c => by rw [List.map_cons, appAll_cons, appAll1 xs]; simp [app, fut]
theorem appAll2 : ∀ (xs : List (Nat × Item)) (c : Cal), appAll c (xs.map frz) = { c with frozen := c.frozen ++ xs }
  | [], c => by simp [appAll]
  | x :: xs, c => by rw [List.map_cons, appAll_cons, appAll2 xs]; simp [app, frz]
theorem appAll3 : ∀ (xs : List Item) (c : Cal), appAll c (xs.map Spot.asleep) = { c with asleep := c.asleep ++ xs }
  | [], c => by simp [appAll]
  | x :: xs, c => by rw [List.map_cons, appAll_cons, appAll3 xs]; simp [app]
theorem snd_bare {t : Nat} (h : t ≤ 1000000000000000) : Snd (bare t) := by
  refine ⟨h, Nat.zero_le _, List.nodup_nil, fun s hs => (by cases hs), fun w => ?_⟩
  match w with
  | 0 => exact List.Pairwise.nil
  | 1 => exact List.Pairwise.nil
  | 2 => exact List.Pairwise.nil
  | 3 => exact List.Pairwise.nil
  | _ + 4 => exact List.Pairwise.nil
theorem goP_cons {w : Nat} {ws : List Nat} {c d : Cal} {l : List Int} : goP (w :: ws) c l = some d ↔ ∃ c' t, chainP w c l = some (c', t) ∧ goP ws c' t = some d := by
  rw [goP]
  cases e : chainP w c l with
  | none => exact ⟨fun h => (by cases h), fun ⟨_, _, h, _⟩ => (by cases h)⟩
  | some r =>
    obtain ⟨r1, r2⟩ := r
    exact ⟨fun h => ⟨r1, r2, rfl, h⟩, fun ⟨c', t, h1, h2⟩ => by injection h1 with h1; injection h1 with h11 h12; subst h11 h12; exact h2⟩
theorem opt_map {α β : Type} {o : Option α} {f : α → β} {y : β} : o.map f = some y ↔ ∃ x, o = some x ∧ f x = y := by cases o <;> simp
theorem loaded_iff {l : List Int} {d : Cal} : loaded l = some d ↔ parsed l = some d ∧ Snd d := by
  unfold loaded
  cases e : parsed l with
  | none => exact ⟨fun h => (by cases h), fun h => (by cases h.1)⟩
  | some c =>
    simp only
    by_cases q : sound c = true
    · rw [if_pos q]
      exact ⟨fun h => (by cases h; exact ⟨rfl, sound_iff.mp q⟩), fun h => h.1⟩
    · rw [if_neg q]
      exact ⟨fun h => (by cases h), fun h => by cases h.1; exact absurd (sound_iff.mpr h.2) q⟩
theorem parsed_iff {t : Int} {l : List Int} {d : Cal} : parsed (t :: l) = some d ↔ 0 ≤ t ∧ ∃ a la b lb e le g, counted items l = some (a, la) ∧ counted dues la = some (b, lb) ∧ counted rests lb = some (e, le) ∧ counted items le = some (g, []) ∧ d = ⟨t.toNat, a, b, e, g⟩ := by
  rw [parsed]
  by_cases q : t < 0
  · rw [if_pos q]
    exact ⟨fun h => (by cases h), fun h => by omega⟩
  · rw [if_neg q]
    simp only [Option.bind_eq_some_iff, Prod.exists]
    constructor
    · rintro ⟨a, la, h1, b, lb, h2, e, le, h3, g, lg, h4, h5⟩
      by_cases z : lg = []
      · subst z
        rw [if_pos rfl] at h5
        exact ⟨by omega, a, la, b, lb, e, le, g, h1, h2, h3, h4, (Option.some.inj h5).symm⟩
      · rw [if_neg z] at h5; cases h5
    · rintro ⟨_, a, la, b, lb, e, le, g, h1, h2, h3, h4, rfl⟩
      exact ⟨a, la, h1, b, lb, h2, e, le, h3, g, [], h4, rfl⟩
theorem goP_nil {c d : Cal} {l : List Int} : goP [] c l = some d ↔ l = [] ∧ c = d := by
  rw [goP]
  by_cases q : l = []
  · rw [if_pos q]; exact ⟨fun h => ⟨q, Option.some.inj h⟩, fun h => by rw [h.2]⟩
  · rw [if_neg q]; exact ⟨fun h => (by cases h), fun h => absurd h.1 q⟩
/-- **the reading is the specification's** -/
theorem loadP_eq (l : List Int) : loadP l = loaded l := by
  apply Option.ext
  intro d
  show loadP l = some d ↔ loaded l = some d
  cases l with
  | nil => exact ⟨fun h => (by cases h), fun h => by cases (loaded_iff.mp h).1⟩
  | cons t l =>
    rw [loaded_iff, parsed_iff, loadP]
    by_cases q : 0 ≤ t ∧ t ≤ 1000000000000000
    · rw [if_pos q]
      have s0 : Snd (bare t.toNat) := snd_bare (by omega)
      constructor
      · intro h
        obtain ⟨c1, l1, h1, h⟩ := goP_cons.mp h
        obtain ⟨ss1, i1, rfl, s1⟩ := (chainP_iff s0).mp h1
        obtain ⟨c2, l2, h2, h⟩ := goP_cons.mp h
        obtain ⟨ss2, i2, rfl, s2⟩ := (chainP_iff s1).mp h2
        obtain ⟨c3, l3, h3, h⟩ := goP_cons.mp h
        obtain ⟨ss3, i3, rfl, s3⟩ := (chainP_iff s2).mp h3
        obtain ⟨c4, l4, h4, h⟩ := goP_cons.mp h
        obtain ⟨ss4, i4, rfl, s4⟩ := (chainP_iff s3).mp h4
        obtain ⟨rfl, rfl⟩ := goP_nil.mp h
        rw [counted0, opt_map] at i1
        obtain ⟨⟨a, la⟩, j1, z1⟩ := i1
        rw [counted1, opt_map] at i2
        obtain ⟨⟨b, lb⟩, j2, z2⟩ := i2
        rw [counted2, opt_map] at i3
        obtain ⟨⟨e, le⟩, j3, z3⟩ := i3
        rw [counted3, opt_map] at i4
        obtain ⟨⟨g, lg⟩, j4, z4⟩ := i4
        injection z1 with z1 z1'
        injection z2 with z2 z2'
        injection z3 with z3 z3'
        injection z4 with z4 z4'
        have z1 : a.map Spot.current = ss1 := z1
        have z2 : b.map fut = ss2 := z2
        have z3 : e.map frz = ss3 := z3
        have z4 : g.map Spot.asleep = ss4 := z4
        have z1' : la = l1 := z1'
        have z2' : lb = l2 := z2'
        have z3' : le = l3 := z3'
        have z4' : lg = [] := z4'
        subst z1' z2' z3' z4'
        refine ⟨⟨q.1, a, la, b, lb, e, le, g, j1, j2, j3, j4, ?_⟩, s4⟩
        rw [← z1, ← z2, ← z3, ← z4, appAll0, appAll1, appAll2, appAll3]
        simp [bare]
      · rintro ⟨⟨_, a, la, b, lb, e, le, g, j1, j2, j3, j4, rfl⟩, s4⟩
        have e4 : (⟨t.toNat, a, b, e, g⟩ : Cal) = appAll ⟨t.toNat, a, b, e, []⟩ (g.map Spot.asleep) := by rw [appAll3]; simp
        have s3 : Snd ⟨t.toNat, a, b, e, []⟩ := by rw [e4] at s4; exact s4.of_appAll
        have e3 : (⟨t.toNat, a, b, e, []⟩ : Cal) = appAll ⟨t.toNat, a, b, [], []⟩ (e.map frz) := by rw [appAll2]; simp
        have s2 : Snd ⟨t.toNat, a, b, [], []⟩ := by rw [e3] at s3; exact s3.of_appAll
        have e2 : (⟨t.toNat, a, b, [], []⟩ : Cal) = appAll ⟨t.toNat, a, [], [], []⟩ (b.map fut) := by rw [appAll1]; simp
        have s1 : Snd ⟨t.toNat, a, [], [], []⟩ := by rw [e2] at s2; exact s2.of_appAll
        have e1 : (⟨t.toNat, a, [], [], []⟩ : Cal) = appAll (bare t.toNat) (a.map Spot.current) := by rw [appAll0]; simp [bare]
        refine goP_cons.mpr ⟨_, la, (chainP_iff s0).mpr ⟨_, by rw [counted0, j1]; rfl, e1, s1⟩, goP_cons.mpr ⟨_, lb, (chainP_iff s1).mpr ⟨_, by rw [counted1, j2]; rfl, e2, s2⟩, goP_cons.mpr ⟨_, le, (chainP_iff s2).mpr ⟨_, by rw [counted2, j3]; rfl, e3, s3⟩, goP_cons.mpr ⟨_, [], (chainP_iff s3).mpr ⟨_, by rw [counted3, j4]; rfl, e4, s4⟩, goP_nil.mpr ⟨rfl, rfl⟩⟩⟩⟩⟩
    · rw [if_neg q]
      constructor
      · intro h; cases h
      · rintro ⟨⟨h0, a, la, b, lb, e, le, g, j1, j2, j3, j4, rfl⟩, s4⟩
        have := s4.clk
        have : t.toNat ≤ 1000000000000000 := this
        omega
theorem st_load_ok {l : List Int} {d : Cal} (h : loaded l = some d) : step c (.load l) = (d, [0]) := by simp only [step, h]
theorem st_load_no {l : List Int} (h : loaded l = none) : step c (.load l) = (c, [-14]) := by simp only [step, h]
end
end WM
end
section
set_option Elab.async false
set_option linter.all false
set_option maxRecDepth 100000
namespace L2
open PySem PySem.Spec PyProof.Rows
section
variable {X : Cx}
/-- xs.insert(k, y), k from 0 to the length -/
def rInsert : V → List V → Hp → VK → Prop := fun x vs H Q => ∃ (l : Addr) (xs : List V) (k : Nat) (y : V), x = .ref l ∧ vs = [.int (k : Int), y] ∧ H l = some (.lst xs) ∧ k ≤ xs.length ∧ xs.length < sizeLine ∧ Q .non (upd H l (.lst (xs.take k ++ y :: xs.drop k)))
theorem ins_fit {k n : Nat} (h : k ≤ n) (hn : n ≤ sizeLine) : Builtin.List.listFitsIndex (k : Int) = true := by
  have h63 := line63
  exact fitsIndex_both (by omega) (by omega)
theorem ins_arr {its : List Value} {x : Int} {k : Nat} {u : Value} (hx : x = (k : Int)) (hk : k ≤ its.length) : (fun xs : Array Value => have j := if x < 0 then (x + (xs.size : Int)).toNat else min x.toNat xs.size; (xs.extract 0 j).push u ++ xs.extract j) its.toArray = (its.take k ++ u :: its.drop k).toArray := by
  have e1 : (if x < 0 then (x + (its.toArray.size : Int)).toNat else min x.toNat its.toArray.size) = k := by
    rw [if_neg (by omega), List.size_toArray]; omega
  dsimp only
  rw [e1]
  apply Array.toList_inj.mp
  simp [List.extract_eq_take_drop]
  rw [List.take_of_length_le (by rw [List.length_drop]; omega)]
theorem mt_insert : MtM X "list.insert" rInsert := by
  intro pins s σ H x vs v us Q I rx rv h
  obtain ⟨l, xs, k, y, rfl, rfl, hH, hk, hz, q⟩ := h
  cases rx
  obtain ⟨u, u2, rfl, ru, ru2⟩ := rv.two
  obtain ⟨t, rfl⟩ := ru
  obtain ⟨z, its, n, r, hl, e⟩ := I.lstM hH
  have hv : Vals (xs.take k ++ y :: xs.drop k) (its.take k ++ u2 :: its.drop k) := (r.take k).append (.cons ru2 (r.drop k))
  have hsz : (xs.take k ++ y :: xs.drop k).length ≤ sizeLine := by
    simp only [List.length_append, List.length_cons, List.length_take, List.length_drop]
    omega
  have hf : Builtin.List.listFitsIndex (k : Int) = true := ins_fit hk z
  clear rv
  generalize hx : (k : Int) = x0 at hf ⊢
  have hz1 : its.toArray.size ≤ sizeLine := by rw [List.size_toArray, ← hl]; exact z
  refine call_meets F.slot_list_insert ⟨_, e, rfl⟩ F.entry_list_insert (F.args_list_insert_3 _ _ _) (AutoSeq1.list_insert_list_int_val_1 l its.toArray n x0 t u2 (by simp [hf]) hz1) ⟨e, ?_⟩
  exact ⟨.non, _, I.lset (its' := its.take k ++ u2 :: its.drop k) hH e (ins_arr hx.symm (by rw [← hl]; exact hk)) hv hsz, rfl, q⟩
/-- xs.remove(n) of ints, n there -/
def rRemove : V → List V → Hp → VK → Prop := fun x vs H Q => ∃ (l : Addr) (ns : List Int) (n : Int), x = .ref l ∧ vs = [.int n] ∧ H l = some (.lst (ns.map V.int)) ∧ n ∈ ns ∧ Q .non (upd H l (.lst ((ns.erase n).map V.int)))
def isN (n : Int) (u : Value) : Bool := match u with
  | .int i _ => i == n
  | _ => false
theorem first_at {n : Int} : ∀ {ns : List Int}, n ∈ ns → ∃ j : Nat, ns[j]? = some n ∧ (∀ (m : Nat) (x : Int), m < j → ns[m]? = some x → x ≠ n) ∧ ns.erase n = ns.eraseIdx j
  | [], h => by cases h
  | a :: ns, h => by
    by_cases e : a = n
    · subst e
      exact ⟨0, rfl, fun m x hm => absurd hm (Nat.not_lt_zero _), by simp⟩
    · have h' : n ∈ ns := by
        rcases List.mem_cons.mp h with q | q
        · exact absurd q.symm e
        · exact q
      obtain ⟨j, h1, h2, h3⟩ := first_at h'
      refine ⟨j + 1, by simpa using h1, fun m x hm hx => ?_, ?_⟩
      · cases m with
        | zero =>
          have : a = x := by simpa using hx
          rw [← this]; exact e
        | succ m => exact h2 m x (Nat.lt_of_succ_lt_succ hm) (by simpa using hx)
      · rw [List.erase_cons, if_neg (by simpa using e), List.eraseIdx_cons_succ, h3]
theorem map_erase {α β : Type} (f : α → β) : ∀ (l : List α) (j : Nat), (l.eraseIdx j).map f = (l.map f).eraseIdx j
  | [], _ => rfl
  | _ :: _, 0 => rfl
  | a :: l, j + 1 => congrArg (f a :: ·) (map_erase f l j)
theorem mt_remove : MtM X "list.remove" rRemove := by
  intro pins s σ H x vs v us Q I rx rv h
  obtain ⟨l, ns, n, rfl, rfl, hH, hn, q⟩ := h
  cases rx
  obtain ⟨u, rfl, ru⟩ := rv.one
  obtain ⟨t, rfl⟩ := ru
  obtain ⟨z, its, nn, r, hl, e⟩ := I.lstM hH
  obtain ⟨j, hj, hno, her⟩ := first_at hn
  have at_ : ∀ (m : Nat) (x : Value), its[m]? = some x → ∃ i t', ns[m]? = some i ∧ x = Value.int i t' := fun m x hx => by
    have hm : m < ns.length := by
      have := (List.getElem?_eq_some_iff.mp hx).1
      rw [List.length_map] at hl; omega
    have hi : (ns.map V.int)[m]? = some (V.int ns[m]) := by simp [hm]
    obtain ⟨u', hu', ru'⟩ := r.get hi
    rw [hx] at hu'
    obtain ⟨t', rfl⟩ := ru'
    exact ⟨ns[m], t', by simp [hm], Option.some.inj hu'⟩
  have hjl : j < its.length := by
    have := (List.getElem?_eq_some_iff.mp hj).1
    rw [List.length_map] at hl; omega
  refine call_meets F.slot_list_remove ⟨_, e, rfl⟩ F.entry_list_remove (F.args_list_remove_2 _ _) (MeetsSeq.list_remove l its.toArray nn (.int n t) (isN n) ?_ j (by simpa using hjl) ?_ ?_ (by rw [List.size_toArray]; omega)) ⟨e, ?_⟩
  · intro y hy
    obtain ⟨m, hm⟩ := List.getElem?_of_mem (show y ∈ its by simpa using hy)
    obtain ⟨i, t', _, rfl⟩ := at_ m y hm
    exact MeetsSeq.EqGives.int i n t' t
  · have hx : its[j]? = some its[j] := List.getElem?_eq_getElem hjl
    obtain ⟨i, t', hi, hv⟩ := at_ j _ hx
    rw [hj] at hi
    cases hi
    show isN n its[j] = true
    rw [hv]; simp [isN]
  · intro m hm hmj
    have hml : m < its.length := by simpa using hm
    obtain ⟨i, t', hi, hv⟩ := at_ m _ (List.getElem?_eq_getElem hml)
    have := hno m i hmj hi
    show isN n its[m] = false
    rw [hv]; simp [isN, this]
  · refine ⟨.non, _, I.lset (its' := its.eraseIdx j) hH e ?_ (ys := (ns.erase n).map V.int) ?_ ?_, rfl, q⟩
    · show its.toArray.eraseIdxIfInBounds j = (its.eraseIdx j).toArray
      rw [List.eraseIdxIfInBounds_toArray]
    · rw [her, map_erase]
      exact r.eraseIdx j
    · rw [List.length_map] at z ⊢
      exact Nat.le_trans (List.length_erase_le) z
/-- dict(d): a copy -/
theorem call_dictC : CallR X (.type "dict") (fun xs H Q => ∃ a kvs, xs = [V.ref a] ∧ H a = some (.dK kvs) ∧ ∀ p, H p = none → Q (.ref p) (upd H p (.dK kvs))) := by
  intro pins s σ H xs us Q I r h
  obtain ⟨a, kvs, rfl, ha, q⟩ := h
  obtain ⟨u, rfl, ru⟩ := vals1 r
  cases ru
  exact d_copyOf I (.inl ha) fun p s' hp I' => ⟨.ref p, _, I', rfl, q p hp⟩
end
/-! ### a module's own dict of ints, read -/
def tabIs : List DictEntry → List (Int × Int) → Bool
  | [], [] => true
  | ⟨h, .int k _, .int v _⟩ :: es, (k', v') :: t => h == hashInt k && (k == k' && (v == v' && tabIs es t))
  | _, _ => false
structure Tab (K : PySem.W.Frag) (mg : Str → Option Value) (x : Str) (a : Addr) (t : List (Int × Int)) : Prop where
  mg : mg x = some (.ref a)
  ob : ∃ es ep, K.lookup a = some ⟨.type "dict", none, .dict es ep, #[]⟩ ∧ tabIs es.toList t = true
  nd : (t.map (·.1)).Nodup
theorem tab_pairs {P : Program} {w : World} : ∀ {es : List DictEntry} {t : List (Int × Int)}, tabIs es t = true →
    ∃ vs : List (Key × Value), Pairs (mixKind P w) es vs ∧ vs.map (·.1) = t.map (fun p => Sum.inl p.1) ∧ (∀ i v, t.lookup i = some v → ∃ tk, valueAt vs (Sum.inl i) = some (.int v tk)) ∧ ∀ e ∈ es, ∃ k, (mixKind P w).is k e.key = true ∧ e.hash = (mixKind P w).hash k
  | [], [], _ => ⟨[], .nil, rfl, fun i v h => (by cases h), fun e h => (by cases h)⟩
  | ⟨h, .int k tk, .int v tv⟩ :: es, (k', v') :: t, e => by
    simp only [tabIs, Bool.and_eq_true, beq_iff_eq] at e
    obtain ⟨e1, e2, e3, e4⟩ := e
    subst e1 e2 e3
    obtain ⟨vs, h1, h2, h3, h4⟩ := tab_pairs (P := P) (w := w) e4
    refine ⟨(Sum.inl k, .int v tv) :: vs, .cons (keyIs_int k tk) rfl h1, by rw [List.map_cons, List.map_cons, h2], fun i u hl => ?_, fun e he => ?_⟩
    · rw [List.lookup_cons] at hl
      by_cases q : i = k
      · subst q
        rw [beq_self_eq_true] at hl
        cases hl
        exact ⟨tv, by simp [valueAt]⟩
      · have hb : (i == k) = false := by simpa using q
        rw [hb] at hl
        obtain ⟨tk', ht⟩ := h3 i u hl
        refine ⟨tk', ?_⟩
        have hne : ¬ (Sum.inl k : Key) = Sum.inl i := fun z => q (Sum.inl.inj z).symm
        unfold valueAt at ht ⊢
        rw [List.find?_cons_of_neg (by simpa using hne)]
        exact ht
    · rcases List.mem_cons.mp he with rfl | he
      · exact ⟨Sum.inl k, keyIs_int k tk, rfl⟩
      · exact h4 e he
  | [], _ :: _, e => by simp [tabIs] at e
  | ⟨_, .int _ _, .int _ _⟩ :: _, [], e => by simp [tabIs] at e
theorem Tab.dict {K : PySem.W.Frag} {mg : Str → Option Value} {x : Str} {a : Addr} {t : List (Int × Int)} (T : Tab K mg x a t) {P : Program} {w : World} {h : Heap} (X : K.In h) :
    ∃ vs : List (Key × Value), h.DictOf (mixKind P w) a vs ∧ ∀ i v, t.lookup i = some v → ∃ tk, valueAt vs (Sum.inl i) = some (.int v tk) := by
  obtain ⟨es, ep, hl, hi⟩ := T.ob
  obtain ⟨vs, h1, h2, h3, h4⟩ := tab_pairs (P := P) (w := w) hi
  refine ⟨vs, ⟨_, es, ep, X _ _ hl, ⟨rfl, rfl, rfl⟩, rfl, fun e he => h4 e (by simpa using he), h1, ?_⟩, h3⟩
  rw [h2, show (t.map fun p => (Sum.inl p.1 : Key)) = (t.map (·.1)).map Sum.inl by rw [List.map_map]; rfl]
  exact List.pairwise_map.mpr (T.nd.imp fun q z => q (Sum.inl.inj z))
section
variable {X : Cx} {i : Expr} {x : Str} {a : Addr} {t : List (Int × Int)} {ty : TE} {p pos : Pos}
def tTab (t : List (Int × Int)) (ty : TE) : TE := fun σ H Q => ty σ H fun y H1 => ∃ i v, y = .int i ∧ t.lookup i = some v ∧ Q (.int v) H1
theorem pe_tab (hg : Gl X x) (T : Tab X.K X.mg x a t) (hi : PE X i ty) (hs : NoSl i) (hd : (x == ("__debug__" : Str)) = false := by decide) : PE X (.Subscript (.Name x p) i pos) (tTab t ty) := by
  intro pins s σ H Q I h
  refine subD_of PySem.F.slot_dict_getitem.lookup hs (ld_glob I hg T.mg (thn (hi pins s σ H _ I h) fun iv s2 ⟨y, H2, I2, ry, k, v, ey, hv, q2⟩ => ?_) hd)
  subst ey
  obtain ⟨vs, dd, hl⟩ := T.dict (P := X.prog) (w := X.w) I2.kIn
  obtain ⟨tk, hw⟩ := hl k v hv
  exact ⟨dd.typeIs, wpAny_getItem_of (kV_is (k := Sum.inl k) ry) dd.mapOf hw ⟨.int v, H2, I2.tok _, ⟨tk, rfl⟩, q2⟩⟩
end
/-! ### a module's own tuple of ints, read -/
def tuplIs : List Value → List Int → Bool
  | [], [] => true
  | .int k _ :: es, k' :: t => k == k' && tuplIs es t
  | _, _ => false
structure Tupl (K : PySem.W.Frag) (mg : Str → Option Value) (x : Str) (a : Addr) (t : List Int) : Prop where
  mg : mg x = some (.ref a)
  sq : ∀ H, SqT K H a (t.map V.int)
theorem tupl_vals : ∀ {es : List Value} {t : List Int}, tuplIs es t = true → Vals (t.map V.int) es
  | [], [], _ => .nil
  | .int k tk :: es, k' :: t, h => by
    simp only [tuplIs, Bool.and_eq_true, beq_iff_eq] at h
    obtain ⟨rfl, h⟩ := h
    exact .cons ⟨tk, rfl⟩ (tupl_vals h)
  | [], _ :: _, h => by simp [tuplIs] at h
  | .int _ _ :: _, [], h => by simp [tuplIs] at h
end L2
end
section
set_option Elab.async false
set_option linter.all false
set_option maxRecDepth 100000
namespace WP
open PySem PySem.Spec PyProof.Rows L2
def top (i : Nat) : Stmt := PySem.Challenge.pw_waitchains_s01_answers.main.body.getD i (.Pass ⟨0, 0, 0, 0⟩)
abbrev s_Thing_init : Stmt := inClass (top 28) 0
abbrev s_Calendar_init : Stmt := inClass (top 29) 0
abbrev s_become : Stmt := top 30
abbrev s_order_key : Stmt := top 31
abbrev s_place_on_chain : Stmt := top 32
abbrev s_put_behind : Stmt := top 33
abbrev s_put_in_front : Stmt := top 34
abbrev s_take_off : Stmt := top 35
abbrev s_move : Stmt := top 36
abbrev s_move_to_current : Stmt := top 37
abbrev s_move_to_future : Stmt := top 38
abbrev s_move_to_frozen : Stmt := top 39
abbrev s_move_to_asleep : Stmt := top 40
abbrev s_time_left : Stmt := top 41
abbrev s_thing_from : Stmt := top 44
abbrev s_in_its_ranges : Stmt := top 45
abbrev s_keeps_order : Stmt := top 46
abbrev s_may_be_last : Stmt := top 47
abbrev s_chain_end : Stmt := top 48
abbrev s_read_chain : Stmt := top 49
abbrev s_calendar_from : Stmt := top 50
abbrev s_load : Stmt := top 51
abbrev s_clear : Stmt := top 52
abbrev s_ready_ids : Stmt := top 54
abbrev s_ready : Stmt := top 55
abbrev s_first : Stmt := top 56
abbrev s_due_or_rest : Stmt := top 57
abbrev s_where : Stmt := top 58
abbrev s_chain_ids : Stmt := top 59
abbrev s_sizes : Stmt := top 60
abbrev s_told_thing : Stmt := top 61
abbrev s_told : Stmt := top 62
abbrev s_join_refusal : Stmt := top 64
abbrev s_joinall_refusal : Stmt := top 65
abbrev s_add_thing : Stmt := top 66
abbrev s_join : Stmt := top 67
abbrev s_joinall : Stmt := top 68
abbrev s_begin_wait : Stmt := top 69
abbrev s_delay : Stmt := top 70
abbrev s_at : Stmt := top 71
abbrev s_retime : Stmt := top 72
abbrev s_sleep : Stmt := top 73
abbrev s_wake : Stmt := top 74
abbrev s_drop : Stmt := top 75
abbrev s_rank : Stmt := top 76
abbrev s_hold : Stmt := top 77
abbrev s_free : Stmt := top 78
abbrev s_fetch : Stmt := top 79
abbrev s_ahead : Stmt := top 80
abbrev s_least_due : Stmt := top 82
abbrev s_waits_until : Stmt := top 83
abbrev s_ids_with_least_due : Stmt := top 84
abbrev s_make_turn : Stmt := top 85
abbrev s_turn : Stmt := top 86
abbrev s_until : Stmt := top 87
abbrev s_slip : Stmt := top 88
abbrev s_next_due : Stmt := top 89
abbrev s_has_row : Stmt := top 94
abbrev s_call_end : Stmt := top 95
abbrev s_answer_row : Stmt := top 96
abbrev s_answer_two_numbers : Stmt := top 97
abbrev s_answer_one_number : Stmt := top 98
abbrev s_answer_no_number : Stmt := top 99
abbrev s_answer_call : Stmt := top 100
abbrev s_answers : Stmt := top 101
set_option genInjectivity false
set_option genSizeOf false
set_option genSizeOfSpec false
/-- the addresses of the text -/
structure Ads where
  c_Thing : Addr
  c_Calendar : Addr
  f_Thing_init : Addr
  d_Thing_init : FuncData
  f_Calendar_init : Addr
  d_Calendar_init : FuncData
  f_become : Addr
  d_become : FuncData
  f_order_key : Addr
  d_order_key : FuncData
  f_place_on_chain : Addr
  d_place_on_chain : FuncData
  f_put_behind : Addr
  d_put_behind : FuncData
  f_put_in_front : Addr
  d_put_in_front : FuncData
  f_take_off : Addr
  d_take_off : FuncData
  f_move : Addr
  d_move : FuncData
  f_move_to_current : Addr
  d_move_to_current : FuncData
  f_move_to_future : Addr
  d_move_to_future : FuncData
  f_move_to_frozen : Addr
  d_move_to_frozen : FuncData
  f_move_to_asleep : Addr
  d_move_to_asleep : FuncData
  f_time_left : Addr
  d_time_left : FuncData
  f_thing_from : Addr
  d_thing_from : FuncData
  f_in_its_ranges : Addr
  d_in_its_ranges : FuncData
  f_keeps_order : Addr
  d_keeps_order : FuncData
  f_may_be_last : Addr
  d_may_be_last : FuncData
  f_chain_end : Addr
  d_chain_end : FuncData
  f_read_chain : Addr
  d_read_chain : FuncData
  f_calendar_from : Addr
  d_calendar_from : FuncData
  f_load : Addr
  d_load : FuncData
  f_clear : Addr
  d_clear : FuncData
  f_ready_ids : Addr
  d_ready_ids : FuncData
  f_ready : Addr
  d_ready : FuncData
  f_first : Addr
  d_first : FuncData
  f_due_or_rest : Addr
  d_due_or_rest : FuncData
  f_where : Addr
  d_where : FuncData
  f_chain_ids : Addr
  d_chain_ids : FuncData
  f_sizes : Addr
  d_sizes : FuncData
  f_told_thing : Addr
  d_told_thing : FuncData
  f_told : Addr
  d_told : FuncData
  f_join_refusal : Addr
  d_join_refusal : FuncData
  f_joinall_refusal : Addr
  d_joinall_refusal : FuncData
  f_add_thing : Addr
  d_add_thing : FuncData
  f_join : Addr
  d_join : FuncData
  f_joinall : Addr
  d_joinall : FuncData
  f_begin_wait : Addr
  d_begin_wait : FuncData
  f_delay : Addr
  d_delay : FuncData
  f_at : Addr
  d_at : FuncData
  f_retime : Addr
  d_retime : FuncData
  f_sleep : Addr
  d_sleep : FuncData
  f_wake : Addr
  d_wake : FuncData
  f_drop : Addr
  d_drop : FuncData
  f_rank : Addr
  d_rank : FuncData
  f_hold : Addr
  d_hold : FuncData
  f_free : Addr
  d_free : FuncData
  f_fetch : Addr
  d_fetch : FuncData
  f_ahead : Addr
  d_ahead : FuncData
  f_least_due : Addr
  d_least_due : FuncData
  f_waits_until : Addr
  d_waits_until : FuncData
  f_ids_with_least_due : Addr
  d_ids_with_least_due : FuncData
  f_make_turn : Addr
  d_make_turn : FuncData
  f_turn : Addr
  d_turn : FuncData
  f_until : Addr
  d_until : FuncData
  f_slip : Addr
  d_slip : FuncData
  f_next_due : Addr
  d_next_due : FuncData
  f_has_row : Addr
  d_has_row : FuncData
  f_call_end : Addr
  d_call_end : FuncData
  f_answer_row : Addr
  d_answer_row : FuncData
  f_answer_two_numbers : Addr
  d_answer_two_numbers : FuncData
  f_answer_one_number : Addr
  d_answer_one_number : FuncData
  f_answer_no_number : Addr
  d_answer_no_number : FuncData
  f_answer_call : Addr
  d_answer_call : FuncData
  f_answers : Addr
  d_answers : FuncData
  k_FAR : Tok
  k_END : Tok
  k_LEAST_ID : Tok
  k_GREATEST_ID : Tok
  k_LEAST_PRIORITY : Tok
  k_GREATEST_PRIORITY : Tok
  k_MOST_KNOWN : Tok
  k_MOST_HOLDS : Tok
  k_CURRENT : Tok
  k_FUTURE : Tok
  k_FROZEN : Tok
  k_ASLEEP : Tok
  k_DONE : Tok
  k_BAD_ID : Tok
  k_BAD_PRIORITY : Tok
  k_ID_IS_KNOWN : Tok
  k_ALL_ARE_KNOWN : Tok
  k_NOT_KNOWN : Tok
  k_BAD_TIME : Tok
  k_WRONG_CHAIN : Tok
  k_NO_HOLDS : Tok
  k_NOTHING_IS_DUE : Tok
  k_TOO_LATE : Tok
  k_BAD_CHAIN : Tok
  k_BAD_STATE : Tok
  k_ODD_ROW : Tok
  k_ALL_HOLDS : Tok
  k_JOINALL : Tok
  k_LOAD : Tok
  a_NUMBER_COUNTS : Addr
  a_WIDTHS : Addr
/-- what of the text stands behind the top -/
structure Txt (K : PySem.W.Frag) (mg : Str → Option Value) (A : Ads) : Prop where
  l_Thing : Cls K A.c_Thing
  m_Thing : Mk K A.c_Thing A.f_Thing_init
  g_Thing : mg "Thing" = some (.ref A.c_Thing)
  n_Thing_number : NoAttr K A.c_Thing "number"
  n_Thing_priority : NoAttr K A.c_Thing "priority"
  n_Thing_holds : NoAttr K A.c_Thing "holds"
  n_Thing_chain : NoAttr K A.c_Thing "chain"
  n_Thing_due : NoAttr K A.c_Thing "due"
  n_Thing_rest : NoAttr K A.c_Thing "rest"
  l_Calendar : Cls K A.c_Calendar
  m_Calendar : Mk K A.c_Calendar A.f_Calendar_init
  g_Calendar : mg "Calendar" = some (.ref A.c_Calendar)
  n_Calendar_clock : NoAttr K A.c_Calendar "clock"
  n_Calendar_things : NoAttr K A.c_Calendar "things"
  n_Calendar_chains : NoAttr K A.c_Calendar "chains"
  F_Thing_init : Fun K "__init__" "Thing.__init__" s_Thing_init A.f_Thing_init A.d_Thing_init
  b_Thing_init : Binds K A.d_Thing_init ["self", "number", "priority"] []
  F_Calendar_init : Fun K "__init__" "Calendar.__init__" s_Calendar_init A.f_Calendar_init A.d_Calendar_init
  b_Calendar_init : Binds K A.d_Calendar_init ["self"] []
  F_become : Fun K "become" "become" s_become A.f_become A.d_become
  b_become : Binds K A.d_become ["calendar", "other"] []
  g_become : mg "become" = some (.ref A.f_become)
  F_order_key : Fun K "order_key" "order_key" s_order_key A.f_order_key A.d_order_key
  b_order_key : Binds K A.d_order_key ["thing"] []
  g_order_key : mg "order_key" = some (.ref A.f_order_key)
  F_place_on_chain : Fun K "place_on_chain" "place_on_chain" s_place_on_chain A.f_place_on_chain A.d_place_on_chain
  b_place_on_chain : Binds K A.d_place_on_chain ["calendar", "thing", "in_front"] []
  g_place_on_chain : mg "place_on_chain" = some (.ref A.f_place_on_chain)
  F_put_behind : Fun K "put_behind" "put_behind" s_put_behind A.f_put_behind A.d_put_behind
  b_put_behind : Binds K A.d_put_behind ["calendar", "thing"] []
  g_put_behind : mg "put_behind" = some (.ref A.f_put_behind)
  F_put_in_front : Fun K "put_in_front" "put_in_front" s_put_in_front A.f_put_in_front A.d_put_in_front
  b_put_in_front : Binds K A.d_put_in_front ["calendar", "thing"] []
  g_put_in_front : mg "put_in_front" = some (.ref A.f_put_in_front)
  F_take_off : Fun K "take_off" "take_off" s_take_off A.f_take_off A.d_take_off
  b_take_off : Binds K A.d_take_off ["calendar", "thing"] []
  g_take_off : mg "take_off" = some (.ref A.f_take_off)
  F_move : Fun K "move" "move" s_move A.f_move A.d_move
  b_move : Binds K A.d_move ["calendar", "thing", "chain", "due", "rest"] []
  g_move : mg "move" = some (.ref A.f_move)
  F_move_to_current : Fun K "move_to_current" "move_to_current" s_move_to_current A.f_move_to_current A.d_move_to_current
  b_move_to_current : Binds K A.d_move_to_current ["calendar", "thing"] []
  g_move_to_current : mg "move_to_current" = some (.ref A.f_move_to_current)
  F_move_to_future : Fun K "move_to_future" "move_to_future" s_move_to_future A.f_move_to_future A.d_move_to_future
  b_move_to_future : Binds K A.d_move_to_future ["calendar", "thing", "wait"] []
  g_move_to_future : mg "move_to_future" = some (.ref A.f_move_to_future)
  F_move_to_frozen : Fun K "move_to_frozen" "move_to_frozen" s_move_to_frozen A.f_move_to_frozen A.d_move_to_frozen
  b_move_to_frozen : Binds K A.d_move_to_frozen ["calendar", "thing", "rest"] []
  g_move_to_frozen : mg "move_to_frozen" = some (.ref A.f_move_to_frozen)
  F_move_to_asleep : Fun K "move_to_asleep" "move_to_asleep" s_move_to_asleep A.f_move_to_asleep A.d_move_to_asleep
  b_move_to_asleep : Binds K A.d_move_to_asleep ["calendar", "thing"] []
  g_move_to_asleep : mg "move_to_asleep" = some (.ref A.f_move_to_asleep)
  F_time_left : Fun K "time_left" "time_left" s_time_left A.f_time_left A.d_time_left
  b_time_left : Binds K A.d_time_left ["calendar", "thing"] []
  g_time_left : mg "time_left" = some (.ref A.f_time_left)
  F_thing_from : Fun K "thing_from" "thing_from" s_thing_from A.f_thing_from A.d_thing_from
  b_thing_from : Binds K A.d_thing_from ["chain", "numbers"] []
  g_thing_from : mg "thing_from" = some (.ref A.f_thing_from)
  F_in_its_ranges : Fun K "in_its_ranges" "in_its_ranges" s_in_its_ranges A.f_in_its_ranges A.d_in_its_ranges
  b_in_its_ranges : Binds K A.d_in_its_ranges ["calendar", "thing"] []
  g_in_its_ranges : mg "in_its_ranges" = some (.ref A.f_in_its_ranges)
  F_keeps_order : Fun K "keeps_order" "keeps_order" s_keeps_order A.f_keeps_order A.d_keeps_order
  b_keeps_order : Binds K A.d_keeps_order ["calendar", "thing"] []
  g_keeps_order : mg "keeps_order" = some (.ref A.f_keeps_order)
  F_may_be_last : Fun K "may_be_last" "may_be_last" s_may_be_last A.f_may_be_last A.d_may_be_last
  b_may_be_last : Binds K A.d_may_be_last ["calendar", "thing"] []
  g_may_be_last : mg "may_be_last" = some (.ref A.f_may_be_last)
  F_chain_end : Fun K "chain_end" "chain_end" s_chain_end A.f_chain_end A.d_chain_end
  b_chain_end : Binds K A.d_chain_end ["row", "start", "width"] []
  g_chain_end : mg "chain_end" = some (.ref A.f_chain_end)
  F_read_chain : Fun K "read_chain" "read_chain" s_read_chain A.f_read_chain A.d_read_chain
  b_read_chain : Binds K A.d_read_chain ["calendar", "chain", "numbers"] []
  g_read_chain : mg "read_chain" = some (.ref A.f_read_chain)
  F_calendar_from : Fun K "calendar_from" "calendar_from" s_calendar_from A.f_calendar_from A.d_calendar_from
  b_calendar_from : Binds K A.d_calendar_from ["row"] []
  g_calendar_from : mg "calendar_from" = some (.ref A.f_calendar_from)
  F_load : Fun K "load" "load" s_load A.f_load A.d_load
  b_load : Binds K A.d_load ["calendar", "row"] []
  g_load : mg "load" = some (.ref A.f_load)
  F_clear : Fun K "clear" "clear" s_clear A.f_clear A.d_clear
  b_clear : Binds K A.d_clear ["calendar"] []
  g_clear : mg "clear" = some (.ref A.f_clear)
  F_ready_ids : Fun K "ready_ids" "ready_ids" s_ready_ids A.f_ready_ids A.d_ready_ids
  b_ready_ids : Binds K A.d_ready_ids ["calendar"] []
  g_ready_ids : mg "ready_ids" = some (.ref A.f_ready_ids)
  F_ready : Fun K "ready" "ready" s_ready A.f_ready A.d_ready
  b_ready : Binds K A.d_ready ["calendar"] []
  g_ready : mg "ready" = some (.ref A.f_ready)
  F_first : Fun K "first" "first" s_first A.f_first A.d_first
  b_first : Binds K A.d_first ["calendar"] []
  g_first : mg "first" = some (.ref A.f_first)
  F_due_or_rest : Fun K "due_or_rest" "due_or_rest" s_due_or_rest A.f_due_or_rest A.d_due_or_rest
  b_due_or_rest : Binds K A.d_due_or_rest ["thing"] []
  g_due_or_rest : mg "due_or_rest" = some (.ref A.f_due_or_rest)
  F_where : Fun K "where" "where" s_where A.f_where A.d_where
  b_where : Binds K A.d_where ["calendar", "number"] []
  g_where : mg "where" = some (.ref A.f_where)
  F_chain_ids : Fun K "chain_ids" "chain_ids" s_chain_ids A.f_chain_ids A.d_chain_ids
  b_chain_ids : Binds K A.d_chain_ids ["calendar", "chain"] []
  g_chain_ids : mg "chain_ids" = some (.ref A.f_chain_ids)
  F_sizes : Fun K "sizes" "sizes" s_sizes A.f_sizes A.d_sizes
  b_sizes : Binds K A.d_sizes ["calendar"] []
  g_sizes : mg "sizes" = some (.ref A.f_sizes)
  F_told_thing : Fun K "told_thing" "told_thing" s_told_thing A.f_told_thing A.d_told_thing
  b_told_thing : Binds K A.d_told_thing ["thing"] []
  g_told_thing : mg "told_thing" = some (.ref A.f_told_thing)
  F_told : Fun K "told" "told" s_told A.f_told A.d_told
  b_told : Binds K A.d_told ["calendar"] []
  g_told : mg "told" = some (.ref A.f_told)
  F_join_refusal : Fun K "join_refusal" "join_refusal" s_join_refusal A.f_join_refusal A.d_join_refusal
  b_join_refusal : Binds K A.d_join_refusal ["known", "number", "priority"] []
  g_join_refusal : mg "join_refusal" = some (.ref A.f_join_refusal)
  F_joinall_refusal : Fun K "joinall_refusal" "joinall_refusal" s_joinall_refusal A.f_joinall_refusal A.d_joinall_refusal
  b_joinall_refusal : Binds K A.d_joinall_refusal ["known", "pairs"] []
  g_joinall_refusal : mg "joinall_refusal" = some (.ref A.f_joinall_refusal)
  F_add_thing : Fun K "add_thing" "add_thing" s_add_thing A.f_add_thing A.d_add_thing
  b_add_thing : Binds K A.d_add_thing ["calendar", "number", "priority"] []
  g_add_thing : mg "add_thing" = some (.ref A.f_add_thing)
  F_join : Fun K "join" "join" s_join A.f_join A.d_join
  b_join : Binds K A.d_join ["calendar", "number", "priority"] []
  g_join : mg "join" = some (.ref A.f_join)
  F_joinall : Fun K "joinall" "joinall" s_joinall A.f_joinall A.d_joinall
  b_joinall : Binds K A.d_joinall ["calendar", "pairs"] []
  g_joinall : mg "joinall" = some (.ref A.f_joinall)
  F_begin_wait : Fun K "begin_wait" "begin_wait" s_begin_wait A.f_begin_wait A.d_begin_wait
  b_begin_wait : Binds K A.d_begin_wait ["calendar", "thing", "wait"] []
  g_begin_wait : mg "begin_wait" = some (.ref A.f_begin_wait)
  F_delay : Fun K "delay" "delay" s_delay A.f_delay A.d_delay
  b_delay : Binds K A.d_delay ["calendar", "number", "wait"] []
  g_delay : mg "delay" = some (.ref A.f_delay)
  F_at : Fun K "at" "at" s_at A.f_at A.d_at
  b_at : Binds K A.d_at ["calendar", "number", "time"] []
  g_at : mg "at" = some (.ref A.f_at)
  F_retime : Fun K "retime" "retime" s_retime A.f_retime A.d_retime
  b_retime : Binds K A.d_retime ["calendar", "number", "wait"] []
  g_retime : mg "retime" = some (.ref A.f_retime)
  F_sleep : Fun K "sleep" "sleep" s_sleep A.f_sleep A.d_sleep
  b_sleep : Binds K A.d_sleep ["calendar", "number"] []
  g_sleep : mg "sleep" = some (.ref A.f_sleep)
  F_wake : Fun K "wake" "wake" s_wake A.f_wake A.d_wake
  b_wake : Binds K A.d_wake ["calendar", "number"] []
  g_wake : mg "wake" = some (.ref A.f_wake)
  F_drop : Fun K "drop" "drop" s_drop A.f_drop A.d_drop
  b_drop : Binds K A.d_drop ["calendar", "number"] []
  g_drop : mg "drop" = some (.ref A.f_drop)
  F_rank : Fun K "rank" "rank" s_rank A.f_rank A.d_rank
  b_rank : Binds K A.d_rank ["calendar", "number", "priority"] []
  g_rank : mg "rank" = some (.ref A.f_rank)
  F_hold : Fun K "hold" "hold" s_hold A.f_hold A.d_hold
  b_hold : Binds K A.d_hold ["calendar", "number"] []
  g_hold : mg "hold" = some (.ref A.f_hold)
  F_free : Fun K "free" "free" s_free A.f_free A.d_free
  b_free : Binds K A.d_free ["calendar", "number"] []
  g_free : mg "free" = some (.ref A.f_free)
  F_fetch : Fun K "fetch" "fetch" s_fetch A.f_fetch A.d_fetch
  b_fetch : Binds K A.d_fetch ["calendar", "number"] []
  g_fetch : mg "fetch" = some (.ref A.f_fetch)
  F_ahead : Fun K "ahead" "ahead" s_ahead A.f_ahead A.d_ahead
  b_ahead : Binds K A.d_ahead ["calendar", "number"] []
  g_ahead : mg "ahead" = some (.ref A.f_ahead)
  F_least_due : Fun K "least_due" "least_due" s_least_due A.f_least_due A.d_least_due
  b_least_due : Binds K A.d_least_due ["calendar"] []
  g_least_due : mg "least_due" = some (.ref A.f_least_due)
  F_waits_until : Fun K "waits_until" "waits_until" s_waits_until A.f_waits_until A.d_waits_until
  b_waits_until : Binds K A.d_waits_until ["calendar", "time"] []
  g_waits_until : mg "waits_until" = some (.ref A.f_waits_until)
  F_ids_with_least_due : Fun K "ids_with_least_due" "ids_with_least_due" s_ids_with_least_due A.f_ids_with_least_due A.d_ids_with_least_due
  b_ids_with_least_due : Binds K A.d_ids_with_least_due ["calendar"] []
  g_ids_with_least_due : mg "ids_with_least_due" = some (.ref A.f_ids_with_least_due)
  F_make_turn : Fun K "make_turn" "make_turn" s_make_turn A.f_make_turn A.d_make_turn
  b_make_turn : Binds K A.d_make_turn ["calendar"] []
  g_make_turn : mg "make_turn" = some (.ref A.f_make_turn)
  F_turn : Fun K "turn" "turn" s_turn A.f_turn A.d_turn
  b_turn : Binds K A.d_turn ["calendar"] []
  g_turn : mg "turn" = some (.ref A.f_turn)
  F_until : Fun K "until" "until" s_until A.f_until A.d_until
  b_until : Binds K A.d_until ["calendar", "time"] []
  g_until : mg "until" = some (.ref A.f_until)
  F_slip : Fun K "slip" "slip" s_slip A.f_slip A.d_slip
  b_slip : Binds K A.d_slip ["calendar", "wait"] []
  g_slip : mg "slip" = some (.ref A.f_slip)
  F_next_due : Fun K "next_due" "next_due" s_next_due A.f_next_due A.d_next_due
  b_next_due : Binds K A.d_next_due ["calendar"] []
  g_next_due : mg "next_due" = some (.ref A.f_next_due)
  F_has_row : Fun K "has_row" "has_row" s_has_row A.f_has_row A.d_has_row
  b_has_row : Binds K A.d_has_row ["place"] []
  g_has_row : mg "has_row" = some (.ref A.f_has_row)
  F_call_end : Fun K "call_end" "call_end" s_call_end A.f_call_end A.d_call_end
  b_call_end : Binds K A.d_call_end ["calls", "start"] []
  g_call_end : mg "call_end" = some (.ref A.f_call_end)
  F_answer_row : Fun K "answer_row" "answer_row" s_answer_row A.f_answer_row A.d_answer_row
  b_answer_row : Binds K A.d_answer_row ["calendar", "place", "row"] []
  g_answer_row : mg "answer_row" = some (.ref A.f_answer_row)
  F_answer_two_numbers : Fun K "answer_two_numbers" "answer_two_numbers" s_answer_two_numbers A.f_answer_two_numbers A.d_answer_two_numbers
  b_answer_two_numbers : Binds K A.d_answer_two_numbers ["calendar", "place", "number", "value"] []
  g_answer_two_numbers : mg "answer_two_numbers" = some (.ref A.f_answer_two_numbers)
  F_answer_one_number : Fun K "answer_one_number" "answer_one_number" s_answer_one_number A.f_answer_one_number A.d_answer_one_number
  b_answer_one_number : Binds K A.d_answer_one_number ["calendar", "place", "number"] []
  g_answer_one_number : mg "answer_one_number" = some (.ref A.f_answer_one_number)
  F_answer_no_number : Fun K "answer_no_number" "answer_no_number" s_answer_no_number A.f_answer_no_number A.d_answer_no_number
  b_answer_no_number : Binds K A.d_answer_no_number ["calendar", "place"] []
  g_answer_no_number : mg "answer_no_number" = some (.ref A.f_answer_no_number)
  F_answer_call : Fun K "answer_call" "answer_call" s_answer_call A.f_answer_call A.d_answer_call
  b_answer_call : Binds K A.d_answer_call ["calendar", "calls", "start", "end"] []
  g_answer_call : mg "answer_call" = some (.ref A.f_answer_call)
  F_answers : Fun K "answers" "answers" s_answers A.f_answers A.d_answers
  b_answers : Binds K A.d_answers ["calls"] []
  g_answers : mg "answers" = some (.ref A.f_answers)
  c_FAR : mg "FAR" = some (.int (10000000000000) A.k_FAR)
  c_END : mg "END" = some (.int (1000000000000000) A.k_END)
  c_LEAST_ID : mg "LEAST_ID" = some (.int (1) A.k_LEAST_ID)
  c_GREATEST_ID : mg "GREATEST_ID" = some (.int (1000000000) A.k_GREATEST_ID)
  c_LEAST_PRIORITY : mg "LEAST_PRIORITY" = some (.int (-1000) A.k_LEAST_PRIORITY)
  c_GREATEST_PRIORITY : mg "GREATEST_PRIORITY" = some (.int (1000) A.k_GREATEST_PRIORITY)
  c_MOST_KNOWN : mg "MOST_KNOWN" = some (.int (2000) A.k_MOST_KNOWN)
  c_MOST_HOLDS : mg "MOST_HOLDS" = some (.int (1000) A.k_MOST_HOLDS)
  c_CURRENT : mg "CURRENT" = some (.int (0) A.k_CURRENT)
  c_FUTURE : mg "FUTURE" = some (.int (1) A.k_FUTURE)
  c_FROZEN : mg "FROZEN" = some (.int (2) A.k_FROZEN)
  c_ASLEEP : mg "ASLEEP" = some (.int (3) A.k_ASLEEP)
  c_DONE : mg "DONE" = some (.int (0) A.k_DONE)
  c_BAD_ID : mg "BAD_ID" = some (.int (-1) A.k_BAD_ID)
  c_BAD_PRIORITY : mg "BAD_PRIORITY" = some (.int (-2) A.k_BAD_PRIORITY)
  c_ID_IS_KNOWN : mg "ID_IS_KNOWN" = some (.int (-3) A.k_ID_IS_KNOWN)
  c_ALL_ARE_KNOWN : mg "ALL_ARE_KNOWN" = some (.int (-4) A.k_ALL_ARE_KNOWN)
  c_NOT_KNOWN : mg "NOT_KNOWN" = some (.int (-5) A.k_NOT_KNOWN)
  c_BAD_TIME : mg "BAD_TIME" = some (.int (-6) A.k_BAD_TIME)
  c_WRONG_CHAIN : mg "WRONG_CHAIN" = some (.int (-7) A.k_WRONG_CHAIN)
  c_NO_HOLDS : mg "NO_HOLDS" = some (.int (-10) A.k_NO_HOLDS)
  c_NOTHING_IS_DUE : mg "NOTHING_IS_DUE" = some (.int (-11) A.k_NOTHING_IS_DUE)
  c_TOO_LATE : mg "TOO_LATE" = some (.int (-12) A.k_TOO_LATE)
  c_BAD_CHAIN : mg "BAD_CHAIN" = some (.int (-13) A.k_BAD_CHAIN)
  c_BAD_STATE : mg "BAD_STATE" = some (.int (-14) A.k_BAD_STATE)
  c_ODD_ROW : mg "ODD_ROW" = some (.int (-15) A.k_ODD_ROW)
  c_ALL_HOLDS : mg "ALL_HOLDS" = some (.int (-16) A.k_ALL_HOLDS)
  c_JOINALL : mg "JOINALL" = some (.int (1) A.k_JOINALL)
  c_LOAD : mg "LOAD" = some (.int (23) A.k_LOAD)
  t_NUMBER_COUNTS : Tab K mg "NUMBER_COUNTS" A.a_NUMBER_COUNTS [(0, 2), (2, 2), (3, 2), (4, 2), (5, 1), (6, 1), (7, 1), (8, 2), (9, 1), (10, 1), (11, 1), (12, 1), (13, 0), (14, 0), (15, 0), (16, 1), (17, 1), (18, 1), (19, 1), (20, 0), (21, 0), (22, 0), (24, 0)]
  u_WIDTHS : Tupl K mg "WIDTHS" A.a_WIDTHS [3, 3, 4, 3]
  n_dict : mg "dict" = none
  n_len : mg "len" = none
  n_range : mg "range" = none
set_option genInjectivity true
set_option genSizeOf true
set_option genSizeOfSpec true
theorem sc_Thing_init : FnScope ["self", "number", "priority"] ["self", "number", "priority"] (defScope s_Thing_init) := ⟨rfl, rfl, rfl, by decide +kernel, rfl, by decide +kernel, by decide +kernel⟩
theorem sc_Calendar_init : FnScope ["self"] ["self"] (defScope s_Calendar_init) := ⟨rfl, rfl, rfl, by decide +kernel, rfl, by decide +kernel, by decide +kernel⟩
theorem sc_become : FnScope ["calendar", "other"] ["calendar", "other"] (defScope s_become) := ⟨rfl, rfl, rfl, by decide +kernel, rfl, by decide +kernel, by decide +kernel⟩
theorem sc_order_key : FnScope ["thing"] ["thing"] (defScope s_order_key) := ⟨rfl, rfl, rfl, by decide +kernel, rfl, by decide +kernel, by decide +kernel⟩
theorem sc_place_on_chain : FnScope ["calendar", "thing", "in_front", "row", "key", "low", "high", "middle", "other"] ["calendar", "thing", "in_front"] (defScope s_place_on_chain) := ⟨rfl, rfl, rfl, by decide +kernel, rfl, by decide +kernel, by decide +kernel⟩
theorem sc_put_behind : FnScope ["calendar", "thing", "place"] ["calendar", "thing"] (defScope s_put_behind) := ⟨rfl, rfl, rfl, by decide +kernel, rfl, by decide +kernel, by decide +kernel⟩
theorem sc_put_in_front : FnScope ["calendar", "thing", "place"] ["calendar", "thing"] (defScope s_put_in_front) := ⟨rfl, rfl, rfl, by decide +kernel, rfl, by decide +kernel, by decide +kernel⟩
theorem sc_take_off : FnScope ["calendar", "thing"] ["calendar", "thing"] (defScope s_take_off) := ⟨rfl, rfl, rfl, by decide +kernel, rfl, by decide +kernel, by decide +kernel⟩
theorem sc_move : FnScope ["calendar", "thing", "chain", "due", "rest"] ["calendar", "thing", "chain", "due", "rest"] (defScope s_move) := ⟨rfl, rfl, rfl, by decide +kernel, rfl, by decide +kernel, by decide +kernel⟩
theorem sc_move_to_current : FnScope ["calendar", "thing"] ["calendar", "thing"] (defScope s_move_to_current) := ⟨rfl, rfl, rfl, by decide +kernel, rfl, by decide +kernel, by decide +kernel⟩
theorem sc_move_to_future : FnScope ["calendar", "thing", "wait"] ["calendar", "thing", "wait"] (defScope s_move_to_future) := ⟨rfl, rfl, rfl, by decide +kernel, rfl, by decide +kernel, by decide +kernel⟩
theorem sc_move_to_frozen : FnScope ["calendar", "thing", "rest"] ["calendar", "thing", "rest"] (defScope s_move_to_frozen) := ⟨rfl, rfl, rfl, by decide +kernel, rfl, by decide +kernel, by decide +kernel⟩
theorem sc_move_to_asleep : FnScope ["calendar", "thing"] ["calendar", "thing"] (defScope s_move_to_asleep) := ⟨rfl, rfl, rfl, by decide +kernel, rfl, by decide +kernel, by decide +kernel⟩
theorem sc_time_left : FnScope ["calendar", "thing"] ["calendar", "thing"] (defScope s_time_left) := ⟨rfl, rfl, rfl, by decide +kernel, rfl, by decide +kernel, by decide +kernel⟩
theorem sc_thing_from : FnScope ["chain", "numbers", "thing"] ["chain", "numbers"] (defScope s_thing_from) := ⟨rfl, rfl, rfl, by decide +kernel, rfl, by decide +kernel, by decide +kernel⟩
theorem sc_in_its_ranges : FnScope ["calendar", "thing"] ["calendar", "thing"] (defScope s_in_its_ranges) := ⟨rfl, rfl, rfl, by decide +kernel, rfl, by decide +kernel, by decide +kernel⟩
theorem sc_keeps_order : FnScope ["calendar", "thing", "ids"] ["calendar", "thing"] (defScope s_keeps_order) := ⟨rfl, rfl, rfl, by decide +kernel, rfl, by decide +kernel, by decide +kernel⟩
theorem sc_may_be_last : FnScope ["calendar", "thing"] ["calendar", "thing"] (defScope s_may_be_last) := ⟨rfl, rfl, rfl, by decide +kernel, rfl, by decide +kernel, by decide +kernel⟩
theorem sc_chain_end : FnScope ["row", "start", "width", "count"] ["row", "start", "width"] (defScope s_chain_end) := ⟨rfl, rfl, rfl, by decide +kernel, rfl, by decide +kernel, by decide +kernel⟩
theorem sc_read_chain : FnScope ["calendar", "chain", "numbers", "width", "place", "thing"] ["calendar", "chain", "numbers"] (defScope s_read_chain) := ⟨rfl, rfl, rfl, by decide +kernel, rfl, by decide +kernel, by decide +kernel⟩
theorem sc_calendar_from : FnScope ["row", "calendar", "start", "chain", "end"] ["row"] (defScope s_calendar_from) := ⟨rfl, rfl, rfl, by decide +kernel, rfl, by decide +kernel, by decide +kernel⟩
theorem sc_load : FnScope ["calendar", "row", "other"] ["calendar", "row"] (defScope s_load) := ⟨rfl, rfl, rfl, by decide +kernel, rfl, by decide +kernel, by decide +kernel⟩
theorem sc_clear : FnScope ["calendar"] ["calendar"] (defScope s_clear) := ⟨rfl, rfl, rfl, by decide +kernel, rfl, by decide +kernel, by decide +kernel⟩
theorem sc_ready_ids : FnScope ["calendar", "number"] ["calendar"] (defScope s_ready_ids) := ⟨rfl, rfl, rfl, by decide +kernel, rfl, by decide +kernel, by decide +kernel⟩
theorem sc_ready : FnScope ["calendar", "ids"] ["calendar"] (defScope s_ready) := ⟨rfl, rfl, rfl, by decide +kernel, rfl, by decide +kernel, by decide +kernel⟩
theorem sc_first : FnScope ["calendar", "ids"] ["calendar"] (defScope s_first) := ⟨rfl, rfl, rfl, by decide +kernel, rfl, by decide +kernel, by decide +kernel⟩
theorem sc_due_or_rest : FnScope ["thing"] ["thing"] (defScope s_due_or_rest) := ⟨rfl, rfl, rfl, by decide +kernel, rfl, by decide +kernel, by decide +kernel⟩
theorem sc_where : FnScope ["calendar", "number", "thing", "in_front"] ["calendar", "number"] (defScope s_where) := ⟨rfl, rfl, rfl, by decide +kernel, rfl, by decide +kernel, by decide +kernel⟩
theorem sc_chain_ids : FnScope ["calendar", "chain", "ids"] ["calendar", "chain"] (defScope s_chain_ids) := ⟨rfl, rfl, rfl, by decide +kernel, rfl, by decide +kernel, by decide +kernel⟩
theorem sc_sizes : FnScope ["calendar", "ids"] ["calendar"] (defScope s_sizes) := ⟨rfl, rfl, rfl, by decide +kernel, rfl, by decide +kernel, by decide +kernel⟩
theorem sc_told_thing : FnScope ["thing"] ["thing"] (defScope s_told_thing) := ⟨rfl, rfl, rfl, by decide +kernel, rfl, by decide +kernel, by decide +kernel⟩
theorem sc_told : FnScope ["calendar", "row", "ids", "number"] ["calendar"] (defScope s_told) := ⟨rfl, rfl, rfl, by decide +kernel, rfl, by decide +kernel, by decide +kernel⟩
theorem sc_join_refusal : FnScope ["known", "number", "priority"] ["known", "number", "priority"] (defScope s_join_refusal) := ⟨rfl, rfl, rfl, by decide +kernel, rfl, by decide +kernel, by decide +kernel⟩
theorem sc_joinall_refusal : FnScope ["known", "pairs", "counted", "place", "refusal"] ["known", "pairs"] (defScope s_joinall_refusal) := ⟨rfl, rfl, rfl, by decide +kernel, rfl, by decide +kernel, by decide +kernel⟩
theorem sc_add_thing : FnScope ["calendar", "number", "priority", "thing"] ["calendar", "number", "priority"] (defScope s_add_thing) := ⟨rfl, rfl, rfl, by decide +kernel, rfl, by decide +kernel, by decide +kernel⟩
theorem sc_join : FnScope ["calendar", "number", "priority", "refusal"] ["calendar", "number", "priority"] (defScope s_join) := ⟨rfl, rfl, rfl, by decide +kernel, rfl, by decide +kernel, by decide +kernel⟩
theorem sc_joinall : FnScope ["calendar", "pairs", "refusal", "place"] ["calendar", "pairs"] (defScope s_joinall) := ⟨rfl, rfl, rfl, by decide +kernel, rfl, by decide +kernel, by decide +kernel⟩
theorem sc_begin_wait : FnScope ["calendar", "thing", "wait"] ["calendar", "thing", "wait"] (defScope s_begin_wait) := ⟨rfl, rfl, rfl, by decide +kernel, rfl, by decide +kernel, by decide +kernel⟩
theorem sc_delay : FnScope ["calendar", "number", "wait", "thing"] ["calendar", "number", "wait"] (defScope s_delay) := ⟨rfl, rfl, rfl, by decide +kernel, rfl, by decide +kernel, by decide +kernel⟩
theorem sc_at : FnScope ["calendar", "number", "time"] ["calendar", "number", "time"] (defScope s_at) := ⟨rfl, rfl, rfl, by decide +kernel, rfl, by decide +kernel, by decide +kernel⟩
theorem sc_retime : FnScope ["calendar", "number", "wait", "thing"] ["calendar", "number", "wait"] (defScope s_retime) := ⟨rfl, rfl, rfl, by decide +kernel, rfl, by decide +kernel, by decide +kernel⟩
theorem sc_sleep : FnScope ["calendar", "number", "thing"] ["calendar", "number"] (defScope s_sleep) := ⟨rfl, rfl, rfl, by decide +kernel, rfl, by decide +kernel, by decide +kernel⟩
theorem sc_wake : FnScope ["calendar", "number", "thing"] ["calendar", "number"] (defScope s_wake) := ⟨rfl, rfl, rfl, by decide +kernel, rfl, by decide +kernel, by decide +kernel⟩
theorem sc_drop : FnScope ["calendar", "number"] ["calendar", "number"] (defScope s_drop) := ⟨rfl, rfl, rfl, by decide +kernel, rfl, by decide +kernel, by decide +kernel⟩
theorem sc_rank : FnScope ["calendar", "number", "priority", "thing"] ["calendar", "number", "priority"] (defScope s_rank) := ⟨rfl, rfl, rfl, by decide +kernel, rfl, by decide +kernel, by decide +kernel⟩
theorem sc_hold : FnScope ["calendar", "number", "thing"] ["calendar", "number"] (defScope s_hold) := ⟨rfl, rfl, rfl, by decide +kernel, rfl, by decide +kernel, by decide +kernel⟩
theorem sc_free : FnScope ["calendar", "number", "thing"] ["calendar", "number"] (defScope s_free) := ⟨rfl, rfl, rfl, by decide +kernel, rfl, by decide +kernel, by decide +kernel⟩
theorem sc_fetch : FnScope ["calendar", "number", "thing", "rest"] ["calendar", "number"] (defScope s_fetch) := ⟨rfl, rfl, rfl, by decide +kernel, rfl, by decide +kernel, by decide +kernel⟩
theorem sc_ahead : FnScope ["calendar", "number", "thing"] ["calendar", "number"] (defScope s_ahead) := ⟨rfl, rfl, rfl, by decide +kernel, rfl, by decide +kernel, by decide +kernel⟩
theorem sc_least_due : FnScope ["calendar"] ["calendar"] (defScope s_least_due) := ⟨rfl, rfl, rfl, by decide +kernel, rfl, by decide +kernel, by decide +kernel⟩
theorem sc_waits_until : FnScope ["calendar", "time"] ["calendar", "time"] (defScope s_waits_until) := ⟨rfl, rfl, rfl, by decide +kernel, rfl, by decide +kernel, by decide +kernel⟩
theorem sc_ids_with_least_due : FnScope ["calendar", "ids", "least", "count"] ["calendar"] (defScope s_ids_with_least_due) := ⟨rfl, rfl, rfl, by decide +kernel, rfl, by decide +kernel, by decide +kernel⟩
theorem sc_make_turn : FnScope ["calendar", "came", "number"] ["calendar"] (defScope s_make_turn) := ⟨rfl, rfl, rfl, by decide +kernel, rfl, by decide +kernel, by decide +kernel⟩
theorem sc_turn : FnScope ["calendar", "came"] ["calendar"] (defScope s_turn) := ⟨rfl, rfl, rfl, by decide +kernel, rfl, by decide +kernel, by decide +kernel⟩
theorem sc_until : FnScope ["calendar", "time", "turns", "came"] ["calendar", "time"] (defScope s_until) := ⟨rfl, rfl, rfl, by decide +kernel, rfl, by decide +kernel, by decide +kernel⟩
theorem sc_slip : FnScope ["calendar", "wait", "ids", "number", "thing"] ["calendar", "wait"] (defScope s_slip) := ⟨rfl, rfl, rfl, by decide +kernel, rfl, by decide +kernel, by decide +kernel⟩
theorem sc_next_due : FnScope ["calendar"] ["calendar"] (defScope s_next_due) := ⟨rfl, rfl, rfl, by decide +kernel, rfl, by decide +kernel, by decide +kernel⟩
theorem sc_has_row : FnScope ["place"] ["place"] (defScope s_has_row) := ⟨rfl, rfl, rfl, by decide +kernel, rfl, by decide +kernel, by decide +kernel⟩
theorem sc_call_end : FnScope ["calls", "start", "place"] ["calls", "start"] (defScope s_call_end) := ⟨rfl, rfl, rfl, by decide +kernel, rfl, by decide +kernel, by decide +kernel⟩
theorem sc_answer_row : FnScope ["calendar", "place", "row"] ["calendar", "place", "row"] (defScope s_answer_row) := ⟨rfl, rfl, rfl, by decide +kernel, rfl, by decide +kernel, by decide +kernel⟩
theorem sc_answer_two_numbers : FnScope ["calendar", "place", "number", "value"] ["calendar", "place", "number", "value"] (defScope s_answer_two_numbers) := ⟨rfl, rfl, rfl, by decide +kernel, rfl, by decide +kernel, by decide +kernel⟩
theorem sc_answer_one_number : FnScope ["calendar", "place", "number"] ["calendar", "place", "number"] (defScope s_answer_one_number) := ⟨rfl, rfl, rfl, by decide +kernel, rfl, by decide +kernel, by decide +kernel⟩
theorem sc_answer_no_number : FnScope ["calendar", "place"] ["calendar", "place"] (defScope s_answer_no_number) := ⟨rfl, rfl, rfl, by decide +kernel, rfl, by decide +kernel, by decide +kernel⟩
theorem sc_answer_call : FnScope ["calendar", "calls", "start", "end", "place", "count"] ["calendar", "calls", "start", "end"] (defScope s_answer_call) := ⟨rfl, rfl, rfl, by decide +kernel, rfl, by decide +kernel, by decide +kernel⟩
theorem sc_answers : FnScope ["calls", "calendar", "answered", "start", "end", "answer"] ["calls"] (defScope s_answers) := ⟨rfl, rfl, rfl, by decide +kernel, rfl, by decide +kernel, by decide +kernel⟩
end WP
end
section
set_option Elab.async false
set_option linter.all false
set_option maxRecDepth 100000
namespace WP
open PySem PySem.Spec PyProof.Rows L2 WM
/-! ### the calendar in the heap -/
def thF (t : Th) : List (Str × V) := [("number", .int t.num), ("priority", .int t.pri), ("holds", .int t.hol), ("chain", .int (t.chn : Int)), ("due", .int t.due), ("rest", .int t.rst)]
def calF (clock : Int) (d l : Addr) : List (Str × V) := [("clock", .int clock), ("things", .ref d), ("chains", .ref l)]
structure M where
  d : Addr
  l : Addr
  ra : Nat → Addr
  clock : Int
  get : Int → Option (Addr × Th)
  n : Nat
  row : Nat → List Int
def M.th (m : M) : Ths := fun i => (m.get i).map Prod.snd
theorem M.th_some {m : M} {i : Int} {a : Addr} {t : Th} (h : m.get i = some (a, t)) : m.th i = some t := by unfold M.th; rw [h]; rfl
theorem M.get_of_th {m : M} {i : Int} {t : Th} (h : m.th i = some t) : ∃ a, m.get i = some (a, t) := by
  unfold M.th at h
  cases e : m.get i with
  | none => rw [e] at h; cases h
  | some p => rw [e] at h; obtain ⟨a, t'⟩ := p; cases h; exact ⟨a, rfl⟩
theorem M.get_none {m : M} {i : Int} (h : m.th i = none) : m.get i = none := by
  unfold M.th at h
  cases e : m.get i with
  | none => rfl
  | some p => rw [e] at h; cases h
def ThAt (D : Ads) (H : Hp) (a : Addr) (t : Th) : Prop := ∃ dx, H a = some (.ins D.c_Thing dx (thF t))
theorem thF_inj {t t' : Th} (h : thF t = thF t') : t = t' := by
  cases t; cases t'
  simp only [thF, List.cons.injEq, Prod.mk.injEq, V.int.injEq, true_and, and_true, Int.natCast_inj] at h
  obtain ⟨h1, h2, h3, h4, h5, h6⟩ := h
  subst h1 h2 h3 h4 h5 h6; rfl
theorem ThAt.inj {D : Ads} {H : Hp} {a : Addr} {t t' : Th} (h : ThAt D H a t) (h' : ThAt D H a t') : t = t' := by
  obtain ⟨dx, e⟩ := h
  obtain ⟨dx', e'⟩ := h'
  rw [e] at e'
  injection e' with e'
  injection e' with _ _ e'
  exact thF_inj e'
structure Rep (D : Ads) (H : Hp) (c : Addr) (m : M) : Prop where
  cal : ∃ dx, H c = some (.ins D.c_Calendar dx (calF m.clock m.d m.l))
  out : H m.l = some (.lst [.ref (m.ra 0), .ref (m.ra 1), .ref (m.ra 2), .ref (m.ra 3)])
  row : ∀ w, w < 4 → H (m.ra w) = some (.lst ((m.row w).map V.int))
  inj : ∀ w v, w < 4 → v < 4 → m.ra w = m.ra v → w = v
  dic : ∃ kvs, H m.d = some (.dK kvs) ∧ kvs.length = m.n ∧ (kvs.map (·.1)).Nodup ∧ ∀ i : Int, valV kvs (Sum.inl i) = (m.get i).map fun p => V.ref p.1
  thg : ∀ i a t, m.get i = some (a, t) → ThAt D H a t ∧ t.num = i
def M.owns (m : M) (c b : Addr) : Prop := b = c ∨ b = m.d ∨ b = m.l ∨ (∃ w, w < 4 ∧ b = m.ra w) ∨ ∃ i a t, m.get i = some (a, t) ∧ b = a
/-- what is not the calendar's stays -/
def Kept (c : Addr) (m : M) (H : Hp) (m' : M) (H' : Hp) : Prop := ∀ b o, H b = some o → ¬ m.owns c b → H' b = some o ∧ ¬ m'.owns c b
theorem Kept.refl {c : Addr} {m : M} {H : Hp} : Kept c m H m H := fun _ _ h n => ⟨h, n⟩
theorem Kept.trans {c : Addr} {m m1 m2 : M} {H H1 H2 : Hp} (a : Kept c m H m1 H1) (b : Kept c m1 H1 m2 H2) : Kept c m H m2 H2 := fun x o h n => b x o (a x o h n).1 (a x o h n).2
section
variable {D : Ads} {H H' : Hp} {c : Addr} {m : M}
theorem Rep.mono (R : Rep D H c m) (h : ∀ b o, m.owns c b → H b = some o → H' b = some o) : Rep D H' c m := by
  obtain ⟨dx, hc⟩ := R.cal
  obtain ⟨kvs, hd, k1, k2, k3⟩ := R.dic
  refine ⟨⟨dx, h _ _ (.inl rfl) hc⟩, h _ _ (.inr (.inr (.inl rfl))) R.out, fun w hw => h _ _ (.inr (.inr (.inr (.inl ⟨w, hw, rfl⟩)))) (R.row w hw), R.inj, ⟨kvs, h _ _ (.inr (.inl rfl)) hd, k1, k2, k3⟩, fun i a t e => ?_⟩
  obtain ⟨⟨dy, ht⟩, q⟩ := R.thg i a t e
  exact ⟨⟨dy, h _ _ (.inr (.inr (.inr (.inr ⟨i, a, t, e, rfl⟩)))) ht⟩, q⟩
theorem Rep.same (R : Rep D H c m) (h : Same H H') : Rep D H' c m := R.mono fun b o _ e => h b o e
/-- a fresh object is no part of it -/
theorem Rep.fresh (R : Rep D H c m) {p : Addr} (h : H p = none) : ¬ m.owns c p := by
  rintro (rfl | rfl | rfl | ⟨w, hw, rfl⟩ | ⟨i, a, t, e, rfl⟩)
  · obtain ⟨dx, q⟩ := R.cal; rw [h] at q; cases q
  · obtain ⟨kvs, q, _⟩ := R.dic; rw [h] at q; cases q
  · have q := R.out; rw [h] at q; cases q
  · have q := R.row w hw; rw [h] at q; cases q
  · obtain ⟨⟨dx, q⟩, _⟩ := R.thg i p t e; rw [h] at q; cases q
theorem Rep.laid (R : Rep D H c m) {p : Addr} {o : HO} (h : H p = none) : Rep D (upd H p o) c m ∧ Kept c m H m (upd H p o) :=
  ⟨R.mono fun b q _ e => by rw [upd_ne (ne_of_none e h)]; exact e, fun b q e n => ⟨by rw [upd_ne (ne_of_none e h)]; exact e, n⟩⟩
/-- two of its things are two objects -/
theorem Rep.ninj (R : Rep D H c m) {i j : Int} {a : Addr} {t t' : Th} (h : m.get i = some (a, t)) (h' : m.get j = some (a, t')) : i = j := by
  obtain ⟨h1, e1⟩ := R.thg i a t h
  obtain ⟨h2, e2⟩ := R.thg j a t' h'
  rw [← e1, ← e2, h1.inj h2]
theorem row_ne_out {ns : List Int} {a b c d : Addr} : (HO.lst (ns.map V.int)) ≠ .lst [.ref a, .ref b, .ref c, .ref d] := by
  intro h
  injection h with h
  cases ns with
  | nil => cases h
  | cons n ns => rw [List.map_cons] at h; injection h with h _; cases h
/-- a row is another -/
theorem Rep.setRow (R : Rep D H c m) {w : Nat} (hw : w < 4) (r : List Int) :
    Rep D (upd H (m.ra w) (.lst (r.map V.int))) c { m with row := at1 m.row w r } ∧ Kept c m H { m with row := at1 m.row w r } (upd H (m.ra w) (.lst (r.map V.int))) := by
  have hr := R.row w hw
  obtain ⟨dx, hc⟩ := R.cal
  obtain ⟨kvs, hd, k1, k2, k3⟩ := R.dic
  have n1 : c ≠ m.ra w := ne_of hc hr (by intro z; cases z)
  have n2 : m.l ≠ m.ra w := ne_of R.out hr (Ne.symm row_ne_out)
  have n3 : m.d ≠ m.ra w := ne_of hd hr (by intro z; cases z)
  refine ⟨⟨⟨dx, by rw [upd_ne n1]; exact hc⟩, by show upd H _ _ m.l = _; rw [upd_ne n2]; exact R.out, fun v hv => ?_, R.inj, ⟨kvs, by show upd H _ _ m.d = _; rw [upd_ne n3]; exact hd, k1, k2, k3⟩, fun i a t e => ?_⟩, fun b o e n => ⟨?_, n⟩⟩
  · show upd H (m.ra w) _ (m.ra v) = some (.lst ((at1 m.row w r v).map V.int))
    by_cases q : v = w
    · subst q; rw [upd_same, at1_same]
    · rw [upd_ne (fun z => q (R.inj v w hv hw z)), at1_ne q]; exact R.row v hv
  · obtain ⟨⟨dy, ht⟩, q⟩ := R.thg i a t e
    exact ⟨⟨dy, by rw [upd_ne (ne_of ht hr (by intro z; cases z))]; exact ht⟩, q⟩
  · have : b ≠ m.ra w := fun z => n (.inr (.inr (.inr (.inl ⟨w, hw, z⟩))))
    rw [upd_ne this]; exact e
theorem calF_ne_thF {C C' dx dx' : Addr} {k : Int} {d l : Addr} {t : Th} : (HO.ins C dx (calF k d l)) ≠ .ins C' dx' (thF t) := by
  intro h
  injection h with _ _ h
  have := congrArg List.length h
  simp [calF, thF] at this
/-- a thing's fields are others -/
theorem Rep.setTh (R : Rep D H c m) {i : Int} {a dx : Addr} {t t' : Th} (hg : m.get i = some (a, t)) (hn : t'.num = t.num) :
    Rep D (upd H a (.ins D.c_Thing dx (thF t'))) c { m with get := at1 m.get i (some (a, t')) } ∧ Kept c m H { m with get := at1 m.get i (some (a, t')) } (upd H a (.ins D.c_Thing dx (thF t'))) := by
  obtain ⟨⟨dy, ht⟩, hi⟩ := R.thg i a t hg
  obtain ⟨dc, hc⟩ := R.cal
  obtain ⟨kvs, hd, k1, k2, k3⟩ := R.dic
  have n1 : c ≠ a := ne_of hc ht calF_ne_thF
  have n2 : m.l ≠ a := ne_of R.out ht (by intro z; cases z)
  have n3 : m.d ≠ a := ne_of hd ht (by intro z; cases z)
  refine ⟨⟨⟨dc, by rw [upd_ne n1]; exact hc⟩, by show upd H _ _ m.l = _; rw [upd_ne n2]; exact R.out, fun v hv => ?_, R.inj, ⟨kvs, by show upd H _ _ m.d = _; rw [upd_ne n3]; exact hd, k1, k2, fun j => ?_⟩, fun j b u e => ?_⟩, fun b o e n => ⟨?_, fun n' => n ?_⟩⟩
  · show upd H a _ (m.ra v) = _
    rw [upd_ne (ne_of (R.row v hv) ht (by intro z; cases z))]; exact R.row v hv
  · show valV kvs (Sum.inl j) = (at1 m.get i (some (a, t')) j).map fun p => V.ref p.1
    by_cases q : j = i
    · subst q; rw [at1_same, k3, hg]; rfl
    · rw [at1_ne q]; exact k3 j
  · by_cases q : j = i
    · subst q
      have e : at1 m.get j (some (a, t')) j = some (b, u) := e
      rw [at1_same] at e
      injection e with e; injection e with e1 e2
      subst e1 e2
      exact ⟨⟨dx, upd_same⟩, hn.trans hi⟩
    · have e2 : at1 m.get i (some (a, t')) j = some (b, u) := e
      rw [at1_ne q] at e2
      obtain ⟨⟨dz, hz⟩, hj⟩ := R.thg j b u e2
      have : b ≠ a := fun z => q (R.ninj (z ▸ e2) hg)
      exact ⟨⟨dz, by rw [upd_ne this]; exact hz⟩, hj⟩
  · have : b ≠ a := fun z => n (.inr (.inr (.inr (.inr ⟨i, a, t, hg, z⟩))))
    rw [upd_ne this]; exact e
  · rcases n' with z | z | z | z | ⟨j, b', u, z, z'⟩
    · exact .inl z
    · exact .inr (.inl z)
    · exact .inr (.inr (.inl z))
    · exact .inr (.inr (.inr (.inl z)))
    · subst z'
      have z : at1 m.get i (some (a, t')) j = some (b, u) := z
      by_cases q : j = i
      · subst q
        rw [at1_same] at z
        injection z with z; injection z with z1 z2
        subst z1
        exact .inr (.inr (.inr (.inr ⟨j, a, t, hg, rfl⟩)))
      · rw [at1_ne q] at z
        exact .inr (.inr (.inr (.inr ⟨j, b, u, z, rfl⟩)))
/-- a new thing becomes known -/
theorem Rep.addTh (R : Rep D H c m) {i : Int} {a : Addr} {t : Th} {kvs : List (Key × V)} (hd : H m.d = some (.dK kvs)) (hg : m.get i = none) (ht : ThAt D H a t) (hn : t.num = i) (hf : ¬ m.owns c a) :
    Rep D (upd H m.d (.dK (putK kvs (Sum.inl i) (.ref a)))) c { m with get := at1 m.get i (some (a, t)), n := m.n + 1 } := by
  obtain ⟨dc, hc⟩ := R.cal
  obtain ⟨kvs', hd', k1, k2, k3⟩ := R.dic
  rw [hd] at hd'
  injection hd' with e; injection e with e
  subst e
  have hv : valV kvs (Sum.inl i) = none := by rw [k3, hg]; rfl
  have n1 : c ≠ m.d := ne_of hc hd (by intro z; cases z)
  have n2 : m.l ≠ m.d := ne_of R.out hd (by intro z; cases z)
  refine ⟨⟨dc, by rw [upd_ne n1]; exact hc⟩, by show upd H _ _ m.l = _; rw [upd_ne n2]; exact R.out, fun v hv => ?_, R.inj, ⟨_, upd_same, ?_, nd_putK _ k2 hv, fun j => ?_⟩, fun j b u e => ?_⟩
  · show upd H m.d _ (m.ra v) = _
    rw [upd_ne (ne_of (R.row v hv) hd (by intro z; cases z))]; exact R.row v hv
  · rw [putK_new _ hv, List.length_append, k1]; rfl
  · show valV (putK kvs (Sum.inl i) (.ref a)) (Sum.inl j) = (at1 m.get i (some (a, t)) j).map fun p => V.ref p.1
    rw [valV_put]
    by_cases q : j = i
    · subst q; rw [if_pos rfl, at1_same]; rfl
    · rw [if_neg (fun z => q (Sum.inl.inj z)), at1_ne q]; exact k3 j
  · have e : at1 m.get i (some (a, t)) j = some (b, u) := e
    by_cases q : j = i
    · subst q
      rw [at1_same] at e
      injection e with e; injection e with e1 e2
      subst e1 e2
      obtain ⟨dx, hx⟩ := ht
      exact ⟨⟨dx, by rw [upd_ne (ne_of hx hd (by intro z; cases z))]; exact hx⟩, hn⟩
    · rw [at1_ne q] at e
      obtain ⟨⟨dz, hz⟩, hj⟩ := R.thg j b u e
      exact ⟨⟨dz, by rw [upd_ne (ne_of hz hd (by intro z; cases z))]; exact hz⟩, hj⟩
/-- a thing is known no more -/
theorem Rep.popTh (R : Rep D H c m) {i : Int} {a : Addr} {t : Th} {kvs : List (Key × V)} (hd : H m.d = some (.dK kvs)) (hg : m.get i = some (a, t)) :
    Rep D (upd H m.d (.dK (dropK kvs (Sum.inl i)))) c { m with get := at1 m.get i none, n := m.n - 1 } ∧ Kept c m H { m with get := at1 m.get i none, n := m.n - 1 } (upd H m.d (.dK (dropK kvs (Sum.inl i)))) := by
  obtain ⟨dc, hc⟩ := R.cal
  obtain ⟨kvs', hd', k1, k2, k3⟩ := R.dic
  rw [hd] at hd'
  injection hd' with e; injection e with e
  subst e
  have hv : valV kvs (Sum.inl i) = some (.ref a) := by rw [k3, hg]; rfl
  have n1 : c ≠ m.d := ne_of hc hd (by intro z; cases z)
  have n2 : m.l ≠ m.d := ne_of R.out hd (by intro z; cases z)
  have hdrop : ∀ (k j : Key) (l : List (Key × V)), valV (dropK l k) j = if j = k then none else valV l j := by
    intro k j l
    induction l with
    | nil => rw [show dropK ([] : List (Key × V)) k = [] from rfl, valV_nil]; split <;> rfl
    | cons p r ih =>
      by_cases e : p.1 = k
      · rw [dropK_pos e, ih]
        by_cases q : j = k
        · rw [if_pos q, if_pos q]
        · rw [if_neg q, if_neg q, valV_neg (fun z => q (z.symm.trans e))]
      · rw [dropK_neg e]
        by_cases q : p.1 = j
        · rw [valV_pos q, valV_pos q, if_neg (fun z => e (q.trans z))]
        · rw [valV_neg q, valV_neg q, ih]
  refine ⟨⟨⟨dc, by rw [upd_ne n1]; exact hc⟩, by show upd H _ _ m.l = _; rw [upd_ne n2]; exact R.out, fun v hv => ?_, R.inj, ⟨_, upd_same, ?_, nd_dropK k2, fun j => ?_⟩, fun j b u e => ?_⟩, fun b o e n => ⟨?_, fun n' => n ?_⟩⟩
  · show upd H m.d _ (m.ra v) = _
    rw [upd_ne (ne_of (R.row v hv) hd (by intro z; cases z))]; exact R.row v hv
  · have := dropK_len k2 (valV_in hv)
    show (dropK kvs (Sum.inl i)).length = m.n - 1
    omega
  · show valV (dropK kvs (Sum.inl i)) (Sum.inl j) = (at1 m.get i none j).map fun p => V.ref p.1
    rw [hdrop]
    by_cases q : j = i
    · subst q; rw [if_pos rfl, at1_same]; rfl
    · rw [if_neg (fun z => q (Sum.inl.inj z)), at1_ne q]; exact k3 j
  · have e : at1 m.get i none j = some (b, u) := e
    by_cases q : j = i
    · subst q; rw [at1_same] at e; cases e
    · rw [at1_ne q] at e
      obtain ⟨⟨dz, hz⟩, hj⟩ := R.thg j b u e
      exact ⟨⟨dz, by rw [upd_ne (ne_of hz hd (by intro z; cases z))]; exact hz⟩, hj⟩
  · have : b ≠ m.d := fun z => n (.inr (.inl z))
    rw [upd_ne this]; exact e
  · rcases n' with z | z | z | z | ⟨j, b', u, z, z'⟩
    · exact .inl z
    · exact .inr (.inl z)
    · exact .inr (.inr (.inl z))
    · exact .inr (.inr (.inr (.inl z)))
    · subst z'
      have z : at1 m.get i none j = some (b, u) := z
      by_cases q : j = i
      · subst q; rw [at1_same] at z; cases z
      · rw [at1_ne q] at z
        exact .inr (.inr (.inr (.inr ⟨j, b, u, z, rfl⟩)))
theorem Kept.addTh {H : Hp} {i : Int} {a : Addr} {t : Th} {kvs : List (Key × V)} {H1 : Hp} (k : Kept c m H m H1) (ha : H a = none) (hg : m.get i = none) :
    Kept c m H { m with get := at1 m.get i (some (a, t)), n := m.n + 1 } (upd H1 m.d (.dK kvs)) := fun b o e n => by
  have hb := k b o e n
  refine ⟨by rw [upd_ne (fun z => n (.inr (.inl z)))]; exact hb.1, fun n' => ?_⟩
  rcases n' with z | z | z | z | ⟨j, b', u, z, z'⟩
  · exact n (.inl z)
  · exact n (.inr (.inl z))
  · exact n (.inr (.inr (.inl z)))
  · exact n (.inr (.inr (.inr (.inl z))))
  · subst z'
    have z : at1 m.get i (some (a, t)) j = some (b, u) := z
    by_cases q : j = i
    · subst q
      rw [at1_same] at z
      injection z with z; injection z with z1 z2
      subst z1
      rw [ha] at e; cases e
    · rw [at1_ne q] at z
      exact n (.inr (.inr (.inr (.inr ⟨j, b, u, z, rfl⟩))))
end
theorem th_at1 {m : M} {i : Int} {a : Addr} {t : Th} : (fun j => (at1 m.get i (some (a, t)) j).map Prod.snd) = at1 m.th i (some t) := by
  funext j
  by_cases q : j = i
  · subst q; rw [at1_same, at1_same]; rfl
  · rw [at1_ne q, at1_ne q]; rfl
theorem th_at1n {m : M} {i : Int} : (fun j => (at1 m.get i none j).map Prod.snd) = at1 m.th i none := by
  funext j
  by_cases q : j = i
  · subst q; rw [at1_same, at1_same]; rfl
  · rw [at1_ne q, at1_ne q]; rfl
/-- the heap bears the specification's calendar -/
structure CalAt (D : Ads) (H : Hp) (c : Addr) (m : M) (cal : Vbdead.Cal) : Prop where
  rep : Rep D H c m
  good : Good cal m.clock m.row m.th m.n
/-- a call is done: the calendar is cal', ans is answered -/
def Done (D : Ads) (c : Addr) (m : M) (H : Hp) (cal : Vbdead.Cal) (ans : List Int) (Q : VK) : Prop :=
  ∀ H' m' p, CalAt D H' c m' cal → Kept c m H m' H' → H' p = some (.lst (ans.map V.int)) → (∀ b o, H b = some o → ¬ m.owns c b → b ≠ p) → Q (.ref p) H'
theorem Done.ret {D : Ads} {c : Addr} {m m1 : M} {H H1 : Hp} {cal : Vbdead.Cal} {ans : List Int} {Q : VK} (d : Done D c m H cal ans Q) (A : CalAt D H1 c m1 cal) (k : Kept c m H m1 H1) (p : Addr) (h : H1 p = none) :
    Q (.ref p) (upd H1 p (.lst (ans.map V.int))) :=
  let l := A.rep.laid (o := .lst (ans.map V.int)) h
  d _ m1 p ⟨l.1, A.good⟩ (k.trans l.2) upd_same fun b o e n => ne_of_none (k b o e n).1 h
end WP
end
section
set_option Elab.async false
set_option linter.all false
set_option maxRecDepth 100000
namespace WP
open PySem PySem.Spec PyProof.Rows L2 WM
section
variable {P : Program} {w : World} {K : PySem.W.Frag} {mg : Str → Option Value} {base : Heap} {D : Ads}
theorem iteI {i j : Int} {A B : Prop} (h1 : i = j → A) (h2 : i ≠ j → B) : if decide (V.int i = V.int j) = true then A else B := by
  by_cases e : i = j
  · rw [if_pos (decide_eq_true (congrArg V.int e))]; exact h1 e
  · rw [if_neg (fun q => e (V.int.inj (of_decide_eq_true q)))]; exact h2 e
theorem iteN {i j : Int} {A B : Prop} (h1 : i ≠ j → A) (h2 : i = j → B) : if (!decide (V.int i = V.int j)) = true then A else B := by
  by_cases e : i = j
  · rw [decide_eq_true (congrArg V.int e)]; exact iteF (h2 e)
  · rw [decide_eq_false (fun q => e (V.int.inj q))]; exact iteT (h1 e)
theorem iteD {c A B : Prop} [Decidable c] (h1 : c → A) (h2 : ¬ c → B) : if decide c = true then A else B := by
  by_cases e : c
  · rw [if_pos (decide_eq_true e)]; exact h1 e
  · rw [if_neg (fun q => e (of_decide_eq_true q))]; exact h2 e
theorem at_rows {m : M} {w : Nat} (h : w < 4) : atI [V.ref (m.ra 0), .ref (m.ra 1), .ref (m.ra 2), .ref (m.ra 3)] (w : Int) = some (.ref (m.ra w)) := by
  refine atI_nat ?_
  match w, h with
  | 0, _ => rfl
  | 1, _ => rfl
  | 2, _ => rfl
  | 3, _ => rfl

/-! ### Thing, Calendar -/
def sp_Thing_init (D : Ads) : Sp := fun vs H Q _ => ∃ a dx, ∃ (n p : Int), vs = [.ref a, .int n, .int p] ∧ H a = some (.ins D.c_Thing dx []) ∧ Q .non (upd H a (.ins D.c_Thing dx (thF ⟨n, p, 0, 0, 0, 0⟩)))
theorem ok_Thing_init (T : Txt K mg D) : FnOk P w K mg base CX0 1 D.f_Thing_init D.d_Thing_init ["self", "number", "priority"] (sp_Thing_init D) := by
  refine T.F_Thing_init.ok sc_Thing_init (fun vs H Q E h => ?_) (fun cdv A outer s H vs Q E hr h => ?_)
  · obtain ⟨a, dx, n, p, rfl, _⟩ := h
    rfl
  · obtain ⟨a, dx, n, p, rfl, ha, k⟩ := h
    refine ⟨_, pss_cons (ps_fld (pv 0) (pv 1) rfl)
      (pss_cons (ps_fld (pv 0) (pv 2) rfl)
      (pss_cons (ps_fld (pv 0) pe_int rfl)
      (pss_cons (ps_fld (pv 0) (pe_glob (v := .int (0)) rfl T.c_CURRENT ⟨_, rfl⟩) rfl)
      (pss_cons (ps_fld (pv 0) pe_int rfl)
      (pss_one (ps_fld (pv 0) pe_int rfl)))))), ?_⟩
    refine ⟨_, rfl, _, rfl, a, D.c_Thing, dx, _, rfl, ha, T.l_Thing, T.n_Thing_number, (by show 0 < 1000; decide), ?_⟩
    refine ⟨_, rfl, _, rfl, a, D.c_Thing, dx, _, rfl, upd_same, T.l_Thing, T.n_Thing_priority, (by show 1 < 1000; decide), ?_⟩
    refine ⟨_, rfl, a, D.c_Thing, dx, _, rfl, upd_same, T.l_Thing, T.n_Thing_holds, (by show 2 < 1000; decide), ?_⟩
    refine ⟨_, rfl, a, D.c_Thing, dx, _, rfl, upd_same, T.l_Thing, T.n_Thing_chain, (by show 3 < 1000; decide), ?_⟩
    refine ⟨_, rfl, a, D.c_Thing, dx, _, rfl, upd_same, T.l_Thing, T.n_Thing_due, (by show 4 < 1000; decide), ?_⟩
    refine ⟨_, rfl, a, D.c_Thing, dx, _, rfl, upd_same, T.l_Thing, T.n_Thing_rest, (by show 5 < 1000; decide), ?_⟩
    rw [upd_upd, upd_upd, upd_upd, upd_upd, upd_upd]
    exact k

/-! ### order_key -/
def sp_order_key (D : Ads) : Sp := fun vs H Q _ => ∃ a t, vs = [.ref a] ∧ ThAt D H a t ∧ Q (.int (kI t)) H
theorem ok_order_key (T : Txt K mg D) : FnOk P w K mg base CX0 1 D.f_order_key D.d_order_key ["thing"] (sp_order_key D) := by
  refine T.F_order_key.ok sc_order_key (fun vs H Q E h => ?_) (fun cdv A outer s H vs Q E hr h => ?_)
  · obtain ⟨a, t, rfl, _⟩ := h
    rfl
  · obtain ⟨a, t, rfl, ⟨dx, ha⟩, k⟩ := h
    refine ⟨_, pss_cons (ps_if (pt_cmpR op_eq (pe_fld (pv 0) rfl) (pe_glob (v := .int (0)) rfl T.c_CURRENT ⟨_, rfl⟩) (nomark _)) (pss_one (ps_ret (pe_un un_neg (pe_fld (pv 0) rfl)))) pss_nil)
      (pss_cons (ps_if (pt_cmpR op_eq (pe_fld (pv 0) rfl) (pe_glob (v := .int (1)) rfl T.c_FUTURE ⟨_, rfl⟩) (nomark _)) (pss_one (ps_ret (pe_fld (pv 0) rfl))) pss_nil)
      (pss_one (ps_ret (pe_fld (pv 0) rfl)))), ?_⟩
    refine ⟨_, rfl, a, D.c_Thing, dx, _, _, rfl, ha, T.l_Thing, T.n_Thing_chain, rfl, rfl, _, rfl, iteI (fun e => ?_) (fun e => ?_)⟩
    · refine ⟨_, rfl, a, D.c_Thing, dx, _, _, rfl, ha, T.l_Thing, T.n_Thing_priority, rfl, _, rfl, ?_⟩
      have e : t.chn = 0 := by omega
      rw [kI, if_pos e] at k
      exact k
    · refine ⟨_, rfl, a, D.c_Thing, dx, _, _, rfl, ha, T.l_Thing, T.n_Thing_chain, rfl, rfl, _, rfl, iteI (fun e1 => ?_) (fun e1 => ?_)⟩
      · refine ⟨_, rfl, a, D.c_Thing, dx, _, _, rfl, ha, T.l_Thing, T.n_Thing_due, rfl, ?_⟩
        rw [kI, if_neg (by omega), if_pos (by omega)] at k
        exact k
      · refine ⟨_, rfl, a, D.c_Thing, dx, _, _, rfl, ha, T.l_Thing, T.n_Thing_number, rfl, ?_⟩
        rw [kI, if_neg (by omega), if_neg (by omega)] at k
        exact k

/-! ### place_on_chain -/
/-- the row that a thing is to be put on, without itself -/
structure Fit (m : M) (t : Th) : Prop where
  chn : t.chn < 4
  known : ∀ j ∈ m.row t.chn, ∃ b u, m.get j = some (b, u)
  sorted : SortedRow m.th (m.row t.chn)
  len : (m.row t.chn).length ≤ 2000
def sp_place_on_chain (D : Ads) : Sp := fun vs H Q _ => ∃ c m i a t fr, vs = [.ref c, .ref a, .bl fr] ∧ Rep D H c m ∧ m.get i = some (a, t) ∧ Fit m t ∧ Q (.int (placeOf m.th (m.row t.chn) (kI t) fr : Nat)) H
theorem ok_place_on_chain (T : Txt K mg D) : FnOk P w K mg base CX0 2 D.f_place_on_chain D.d_place_on_chain ["calendar", "thing", "in_front"] (sp_place_on_chain D) := by
  refine T.F_place_on_chain.ok sc_place_on_chain (fun vs H Q E h => ?_) (fun cdv A outer s H vs Q E hr h => ?_)
  · obtain ⟨c, m, i, a, t, fr, rfl, _⟩ := h
    rfl
  · obtain ⟨c, m, i, a, t, fr, rfl, R, hg, F, k⟩ := h
    obtain ⟨dc, hc⟩ := R.cal
    obtain ⟨⟨dx, ha⟩, hi⟩ := R.thg i a t hg
    refine ⟨_, pss_cons (ps_set (i := 3) sc_place_on_chain.nd rfl (Or.inl rfl) (pe_ix ix_list (pe_fld (pv 0) rfl) (pe_fld (pv 1) rfl) (fun _ _ => rfl)))
      (pss_cons (ps_set (i := 4) sc_place_on_chain.nd rfl (Or.inl rfl) (pe_call (ok_order_key T) (hr.mono (by decide)) rfl T.g_order_key T.F_order_key.kp T.b_order_key .nil pass0 (pa_cons (pv 1) pa_nil)))
      (pss_cons (ps_set (i := 5) sc_place_on_chain.nd rfl (Or.inl rfl) pe_int)
      (pss_cons (ps_set (i := 6) sc_place_on_chain.nd rfl (Or.inl rfl) (pe_callB call_len_seq rfl T.n_len PySem.boot_len (pa_cons (pv 3) pa_nil)))
      (pss_cons (ps_while PassesOwn.never (pt_cmpR op_lt (pv 5) (pv 6) (nomark _)) (pss_cons (ps_set (i := 7) sc_place_on_chain.nd rfl (Or.inl rfl) (pe_op op_fdiv (pe_op op_add (pv 5) (pv 6)) pe_int))
      (pss_cons (ps_set (i := 8) sc_place_on_chain.nd rfl (Or.inl rfl) (pe_call (ok_order_key T) (hr.mono (by decide)) rfl T.g_order_key T.F_order_key.kp T.b_order_key .nil pass0 (pa_cons (pe_dget (hu_of hr) (pe_fld (pv 0) rfl) (pe_ix ix_list (pv 3) (pv 7) (fun _ _ => rfl)) (fun _ _ => rfl)) pa_nil)))
      (pss_one (ps_if (PW.pt (pw_or (pt_cmpR op_lt (pv 8) (pv 4) (nomark _)) (pw_or1 (PW.pt (pw_and (pt_cmpR op_eq (pv 8) (pv 4) (nomark _)) (pw_and1 (pt_not (pt_val (pv 2))))))))) (pss_one (ps_set (i := 5) sc_place_on_chain.nd rfl (Or.inl rfl) (pe_op op_add (pv 7) pe_int))) (pss_one (ps_set (i := 6) sc_place_on_chain.nd rfl (Or.inl rfl) (pv 7))))))))
      (pss_one (ps_ret (pv 5))))))), ?_⟩
    refine ⟨_, rfl, c, D.c_Calendar, dc, _, _, rfl, hc, T.l_Calendar, T.n_Calendar_chains, rfl, _, rfl, a, D.c_Thing, dx, _, _, rfl, ha, T.l_Thing, T.n_Thing_chain, rfl, m.l, _, _, _, rfl, rfl, SqL.of R.out, at_rows F.chn, ?_⟩
    refine ⟨_, rfl, a, t, rfl, ⟨dx, ha⟩, ?_⟩
    refine ⟨_, rfl, m.ra t.chn, _, rfl, .inl (SqL.of (R.row _ F.chn)), ?_⟩
    refine ⟨fun n σ H' => ∃ (low high : Nat) (v7 v8 : Option V), n = high - low ∧ σ = [some (.ref c), some (.ref a), some (.bl fr), some (.ref (m.ra t.chn)), some (.int (kI t)), some (.int (low : Int)), some (.int (high : Int)), v7, v8] ∧ H = H' ∧
      Halved m.th (m.row t.chn) (kI t) fr low high, ⟨_, 0, (m.row t.chn).length, none, none, rfl, by rw [List.length_map]; rfl, rfl, Halved.start⟩, ?_⟩
    rintro n σ H' ⟨low, high, v7, v8, rfl, rfl, rfl, hv⟩
    refine ⟨_, rfl, _, rfl, _, _, rfl, rfl, _, rfl, iteD (fun hlt => ?_) (fun hge => ?_)⟩
    · have hlt : low < high := by omega
      refine ⟨fun σ' H' => ∃ m', m' < high - low ∧ ∃ (low' high' : Nat) (v7 v8 : Option V), m' = high' - low' ∧ σ' = [some (.ref c), some (.ref a), some (.bl fr), some (.ref (m.ra t.chn)), some (.int (kI t)), some (.int (low' : Int)), some (.int (high' : Int)), v7, v8] ∧ H = H' ∧
        Halved m.th (m.row t.chn) (kI t) fr low' high', fun _ _ h => h, ?_⟩
      have hmid : ((low : Int) + (high : Int)) / 2 = (((low + high) / 2 : Nat) : Int) := by omega
      generalize hmm : (low + high) / 2 = mid at hmid
      have hm1 : low ≤ mid := by omega
      have hm2 : mid < high := by omega
      obtain ⟨x, hx⟩ : ∃ x, (m.row t.chn)[mid]? = some x := ⟨_, List.getElem?_eq_getElem (Nat.lt_of_lt_of_le hm2 hv.top)⟩
      obtain ⟨b, u, hb⟩ := F.known x (List.mem_of_getElem? hx)
      obtain ⟨kvs, hd, k1, k2, k3⟩ := R.dic
      have hkx : valV kvs (Sum.inl x) = some (.ref b) := by rw [k3, hb]; rfl
      have hkey : keyAt m.th x = kI u := keyAt_some (M.th_some hb)
      refine ⟨_, rfl, _, rfl, _, _, rfl, rfl, _, _, rfl, rfl, ⟨by decide, by decide⟩, ?_⟩
      refine ⟨_, rfl, c, D.c_Calendar, dc, _, _, rfl, hc, T.l_Calendar, T.n_Calendar_things, rfl, _, rfl, _, rfl, m.ra t.chn, _, _, _, rfl, rfl, SqL.of (R.row _ F.chn), (at_of (j := mid) (v := .int x) hmid (by rw [List.getElem?_map, hx]; rfl)), m.d, .ref b, rfl, ?_, ?_⟩
      · rw [← hkx]; exact DGet.k (k := Sum.inl x) hd
      refine ⟨b, u, rfl, (R.thg x b u hb).1, ?_⟩
      have right : passB m.th (kI t) fr x = true → ∃ m', m' < high - low ∧ ∃ (low' high' : Nat) (w7 w8 : Option V), m' = high' - low' ∧
          [some (V.ref c), some (.ref a), some (.bl fr), some (.ref (m.ra t.chn)), some (.int (kI t)), some (.int (((low : Int) + (high : Int)) / 2 + 1)), some (.int (high : Int)), some (.int (((low : Int) + (high : Int)) / 2)), some (.int (kI u))] =
            [some (.ref c), some (.ref a), some (.bl fr), some (.ref (m.ra t.chn)), some (.int (kI t)), some (.int (low' : Int)), some (.int (high' : Int)), w7, w8] ∧ H = H ∧ Halved m.th (m.row t.chn) (kI t) fr low' high' := fun hp =>
        ⟨high - (mid + 1), by omega, mid + 1, high, _, _, rfl, by rw [hmid]; rfl, rfl, hv.right F.sorted hm2 hx hp⟩
      have left : passB m.th (kI t) fr x = false → ∃ m', m' < high - low ∧ ∃ (low' high' : Nat) (w7 w8 : Option V), m' = high' - low' ∧
          [some (V.ref c), some (.ref a), some (.bl fr), some (.ref (m.ra t.chn)), some (.int (kI t)), some (.int (low : Int)), some (.int (((low : Int) + (high : Int)) / 2)), some (.int (((low : Int) + (high : Int)) / 2)), some (.int (kI u))] =
            [some (.ref c), some (.ref a), some (.bl fr), some (.ref (m.ra t.chn)), some (.int (kI t)), some (.int (low' : Int)), some (.int (high' : Int)), w7, w8] ∧ H = H ∧ Halved m.th (m.row t.chn) (kI t) fr low' high' := fun hp =>
        ⟨mid - low, by omega, low, mid, _, _, rfl, by rw [hmid], rfl, hv.left F.sorted hm1 hm2 hx hp⟩
      refine ⟨_, rfl, _, rfl, _, _, rfl, rfl, _, rfl, iteD (fun hl => ?_) (fun hl => ?_)⟩
      · refine iteT ⟨_, rfl, _, _, rfl, rfl, right ?_⟩
        unfold passB
        rw [hkey, decide_eq_true hl]; rfl
      · refine ⟨_, rfl, _, rfl, rfl, _, rfl, iteI (fun he => ?_) (fun he => ?_)⟩
        · refine ⟨_, rfl, _, rfl, ?_⟩
          cases fr with
          | false =>
            refine iteT ⟨_, rfl, _, _, rfl, rfl, right ?_⟩
            unfold passB
            rw [hkey, decide_eq_true he]; simp
          | true =>
            refine iteF ⟨_, rfl, left ?_⟩
            unfold passB
            rw [hkey, decide_eq_false hl]; simp
        · refine iteF ⟨_, rfl, left ?_⟩
          unfold passB
          rw [hkey, decide_eq_false hl, decide_eq_false he]; rfl
    · have e : low = high := by have := hv.le; omega
      subst e
      refine ⟨_, rfl, ?_⟩
      rw [hv.done] at k
      exact k

/-! ### put_behind, put_in_front, take_off -/
def sp_put (D : Ads) (fr : Bool) : Sp := fun vs H Q _ => ∃ c m i a t, vs = [.ref c, .ref a] ∧ Rep D H c m ∧ m.get i = some (a, t) ∧ Fit m t ∧
  ∀ H', Rep D H' c { m with row := putRow m.th m.row t fr } → Kept c m H { m with row := putRow m.th m.row t fr } H' → Q .non H'
def sp_put_behind (D : Ads) : Sp := sp_put D false
def sp_put_in_front (D : Ads) : Sp := sp_put D true
theorem put_heap {H : Hp} {c : Addr} {m : M} {t : Th} {fr : Bool} (R : Rep D H c m) (F : Fit m t) :
    let k := placeOf m.th (m.row t.chn) (kI t) fr
    let H' := upd H (m.ra t.chn) (.lst ((m.row t.chn).map V.int |>.take k |>.append (V.int t.num :: ((m.row t.chn).map V.int).drop k)))
    Rep D H' c { m with row := putRow m.th m.row t fr } ∧ Kept c m H { m with row := putRow m.th m.row t fr } H' := by
  have e : ((m.row t.chn).map V.int).take (placeOf m.th (m.row t.chn) (kI t) fr) ++ (V.int t.num :: ((m.row t.chn).map V.int).drop (placeOf m.th (m.row t.chn) (kI t) fr)) = (ins (passB m.th (kI t) fr) t.num (m.row t.chn)).map V.int := by
    rw [ins_place, List.map_append, List.map_cons, List.map_take, List.map_drop]
  have := R.setRow F.chn (ins (passB m.th (kI t) fr) t.num (m.row t.chn))
  rw [← e] at this
  exact this
theorem ok_put_behind (T : Txt K mg D) : FnOk P w K mg base CX0 3 D.f_put_behind D.d_put_behind ["calendar", "thing"] (sp_put_behind D) := by
  refine T.F_put_behind.ok sc_put_behind (fun vs H Q E h => ?_) (fun cdv A outer s H vs Q E hr h => ?_)
  · obtain ⟨c, m, i, a, t, rfl, _⟩ := h
    rfl
  · obtain ⟨c, m, i, a, t, rfl, R, hg, F, k⟩ := h
    obtain ⟨dc, hc⟩ := R.cal
    obtain ⟨⟨dx, ha⟩, hi⟩ := R.thg i a t hg
    refine ⟨_, pss_cons (ps_set (i := 2) sc_put_behind.nd rfl (Or.inl rfl) (pe_call (ok_place_on_chain T) (hr.mono (by decide)) rfl T.g_place_on_chain T.F_place_on_chain.kp T.b_place_on_chain .nil pass0 (pa_cons (pv 0) (pa_cons (pv 1) (pa_cons pe_bl pa_nil)))))
      (pss_one (ps_expr (pe_bm PySem.F.plainAttrs_list PySem.F.slot_list_insert PySem.F.type_list_insert mt_insert (pe_ix ix_list (pe_fld (pv 0) rfl) (pe_fld (pv 1) rfl) (fun _ _ => rfl)) (pa_cons (pv 2) (pa_cons (pe_fld (pv 1) rfl) pa_nil))))), ?_⟩
    refine ⟨_, rfl, _, rfl, c, m, i, a, t, false, rfl, R, hg, F, ?_⟩
    refine ⟨_, rfl, c, D.c_Calendar, dc, _, _, rfl, hc, T.l_Calendar, T.n_Calendar_chains, rfl, _, rfl, a, D.c_Thing, dx, _, _, rfl, ha, T.l_Thing, T.n_Thing_chain, rfl, m.l, _, _, _, rfl, rfl, SqL.of R.out, at_rows F.chn, .inl ⟨rfl, _, SqL.of (R.row _ F.chn)⟩, ?_⟩
    refine ⟨_, rfl, _, rfl, a, D.c_Thing, dx, _, _, rfl, ha, T.l_Thing, T.n_Thing_number, rfl, m.ra t.chn, _, placeOf m.th (m.row t.chn) (kI t) false, _, rfl, rfl, R.row _ F.chn, by rw [List.length_map]; exact place_le, ?_, ?_⟩
    · rw [List.length_map]; exact Nat.lt_of_le_of_lt F.len (by decide)
    · have := put_heap (fr := false) R F
      exact k _ this.1 this.2
theorem ok_put_in_front (T : Txt K mg D) : FnOk P w K mg base CX0 3 D.f_put_in_front D.d_put_in_front ["calendar", "thing"] (sp_put_in_front D) := by
  refine T.F_put_in_front.ok sc_put_in_front (fun vs H Q E h => ?_) (fun cdv A outer s H vs Q E hr h => ?_)
  · obtain ⟨c, m, i, a, t, rfl, _⟩ := h
    rfl
  · obtain ⟨c, m, i, a, t, rfl, R, hg, F, k⟩ := h
    obtain ⟨dc, hc⟩ := R.cal
    obtain ⟨⟨dx, ha⟩, hi⟩ := R.thg i a t hg
    refine ⟨_, pss_cons (ps_set (i := 2) sc_put_in_front.nd rfl (Or.inl rfl) (pe_call (ok_place_on_chain T) (hr.mono (by decide)) rfl T.g_place_on_chain T.F_place_on_chain.kp T.b_place_on_chain .nil pass0 (pa_cons (pv 0) (pa_cons (pv 1) (pa_cons pe_bl pa_nil)))))
      (pss_one (ps_expr (pe_bm PySem.F.plainAttrs_list PySem.F.slot_list_insert PySem.F.type_list_insert mt_insert (pe_ix ix_list (pe_fld (pv 0) rfl) (pe_fld (pv 1) rfl) (fun _ _ => rfl)) (pa_cons (pv 2) (pa_cons (pe_fld (pv 1) rfl) pa_nil))))), ?_⟩
    refine ⟨_, rfl, _, rfl, c, m, i, a, t, true, rfl, R, hg, F, ?_⟩
    refine ⟨_, rfl, c, D.c_Calendar, dc, _, _, rfl, hc, T.l_Calendar, T.n_Calendar_chains, rfl, _, rfl, a, D.c_Thing, dx, _, _, rfl, ha, T.l_Thing, T.n_Thing_chain, rfl, m.l, _, _, _, rfl, rfl, SqL.of R.out, at_rows F.chn, .inl ⟨rfl, _, SqL.of (R.row _ F.chn)⟩, ?_⟩
    refine ⟨_, rfl, _, rfl, a, D.c_Thing, dx, _, _, rfl, ha, T.l_Thing, T.n_Thing_number, rfl, m.ra t.chn, _, placeOf m.th (m.row t.chn) (kI t) true, _, rfl, rfl, R.row _ F.chn, by rw [List.length_map]; exact place_le, ?_, ?_⟩
    · rw [List.length_map]; exact Nat.lt_of_le_of_lt F.len (by decide)
    · have := put_heap (fr := true) R F
      exact k _ this.1 this.2
def sp_take_off (D : Ads) : Sp := fun vs H Q _ => ∃ c m i a t, vs = [.ref c, .ref a] ∧ Rep D H c m ∧ m.get i = some (a, t) ∧ t.chn < 4 ∧ t.num ∈ m.row t.chn ∧
  ∀ H', Rep D H' c { m with row := offRow m.row t } → Kept c m H { m with row := offRow m.row t } H' → Q .non H'
theorem ok_take_off (T : Txt K mg D) : FnOk P w K mg base CX0 1 D.f_take_off D.d_take_off ["calendar", "thing"] (sp_take_off D) := by
  refine T.F_take_off.ok sc_take_off (fun vs H Q E h => ?_) (fun cdv A outer s H vs Q E hr h => ?_)
  · obtain ⟨c, m, i, a, t, rfl, _⟩ := h
    rfl
  · obtain ⟨c, m, i, a, t, rfl, R, hg, hw, hm, k⟩ := h
    obtain ⟨dc, hc⟩ := R.cal
    obtain ⟨⟨dx, ha⟩, hi⟩ := R.thg i a t hg
    refine ⟨_, pss_one (ps_expr (pe_bm PySem.F.plainAttrs_list PySem.F.slot_list_remove PySem.F.type_list_remove mt_remove (pe_ix ix_list (pe_fld (pv 0) rfl) (pe_fld (pv 1) rfl) (fun _ _ => rfl)) (pa_cons (pe_fld (pv 1) rfl) pa_nil))), ?_⟩
    refine ⟨_, rfl, c, D.c_Calendar, dc, _, _, rfl, hc, T.l_Calendar, T.n_Calendar_chains, rfl, _, rfl, a, D.c_Thing, dx, _, _, rfl, ha, T.l_Thing, T.n_Thing_chain, rfl, m.l, _, _, _, rfl, rfl, SqL.of R.out, at_rows hw, .inl ⟨rfl, _, SqL.of (R.row _ hw)⟩, ?_⟩
    refine ⟨_, rfl, a, D.c_Thing, dx, _, _, rfl, ha, T.l_Thing, T.n_Thing_number, rfl, m.ra t.chn, m.row t.chn, t.num, rfl, rfl, R.row _ hw, hm, ?_⟩
    have := R.setRow hw ((m.row t.chn).erase t.num)
    exact k _ this.1 this.2
end
end WP
end
section
set_option Elab.async false
set_option linter.all false
set_option maxRecDepth 100000
namespace WP
open PySem PySem.Spec PyProof.Rows L2 WM
section
variable {P : Program} {w : World} {K : PySem.W.Frag} {mg : Str → Option Value} {base : Heap} {D : Ads}
theorem sp_len_all (c : Vbdead.Cal) (w : Nat) : (sp c w).length ≤ (spAll c).length := by
  unfold spAll
  simp only [List.length_append]
  match w with
  | 0 => omega
  | 1 => omega
  | 2 => omega
  | 3 => omega
  | _ + 4 => exact Nat.zero_le _
theorem Ready.fit {d : Vbdead.Cal} {id : Int} {m : M} {t : Th} (R : Ready d id m.row m.th) (h : t.chn < 4) : Fit m t := by
  refine ⟨h, fun j hj => ?_, R.sorted h, ?_⟩
  · obtain ⟨y, _, _, h2, _⟩ := R.known h hj
    obtain ⟨b, hb⟩ := M.get_of_th h2
    exact ⟨b, _, hb⟩
  · rw [R.row _ h, List.length_map]; exact Nat.le_trans (sp_len_all d _) R.snd.sz
theorem th_move {t : Th} {s' : Vbdead.Spot} (h1 : t.num = sidI s') (h2 : t.pri = (thOf s').pri) (h3 : t.hol = (thOf s').hol) : ({ t with chn := sw s', due := (thOf s').due, rst := (thOf s').rst } : Th) = thOf s' := by
  cases t
  cases s' <;> (simp only [thOf, sw] at *; subst h2 h3; rw [h1]; rfl)

/-! ### move -/
def sp_move (D : Ads) : Sp := fun vs H Q _ => ∃ c m a cal s t s', vs = [.ref c, .ref a, .int (sw s' : Int), .int (thOf s').due, .int (thOf s').rst] ∧ Rep D H c m ∧ m.get (sidI s) = some (a, t) ∧ Near cal s t m.clock m.row m.th m.n ∧ sid s' = sid s ∧
  okSpot cal.clock s' ∧ t.pri = (thOf s').pri ∧ t.hol = (thOf s').hol ∧ ∀ H' m', CalAt D H' c m' (put (cal.without (sid s)) s') → Kept c m H m' H' → Q .non H'
theorem ok_move (T : Txt K mg D) : FnOk P w K mg base CX0 4 D.f_move D.d_move ["calendar", "thing", "chain", "due", "rest"] (sp_move D) := by
  refine T.F_move.ok sc_move (fun vs H Q E h => ?_) (fun cdv A outer s H vs Q E hr h => ?_)
  · obtain ⟨c, m, a, cal, s, t, s', rfl, _⟩ := h
    rfl
  · obtain ⟨c, m, a, cal, s, t, s', rfl, R, hg, N, es, ok, e1, e2, k⟩ := h
    refine ⟨_, pss_cons (ps_expr (pe_call (ok_take_off T) (hr.mono (by decide)) rfl T.g_take_off T.F_take_off.kp T.b_take_off .nil pass0 (pa_cons (pv 0) (pa_cons (pv 1) pa_nil))))
      (pss_cons (ps_fld (pv 1) (pv 2) rfl)
      (pss_cons (ps_fld (pv 1) (pv 3) rfl)
      (pss_cons (ps_fld (pv 1) (pv 4) rfl)
      (pss_one (ps_expr (pe_call (ok_put_behind T) (hr.mono (by decide)) rfl T.g_put_behind T.F_put_behind.kp T.b_put_behind .nil pass0 (pa_cons (pv 0) (pa_cons (pv 1) pa_nil)))))))), ?_⟩
    refine ⟨_, rfl, _, rfl, c, m, sidI s, a, t, rfl, R, hg, (by rw [N.chn]; exact sw_lt s), N.inRow, fun H1 R1 K1 => ?_⟩
    obtain ⟨⟨dx, ha⟩, _⟩ := R1.thg (sidI s) a t hg
    refine ⟨_, rfl, _, rfl, a, D.c_Thing, dx, _, rfl, ha, T.l_Thing, T.n_Thing_chain, (by show 6 < 1000; decide), ?_⟩
    refine ⟨_, rfl, _, rfl, a, D.c_Thing, dx, _, rfl, upd_same, T.l_Thing, T.n_Thing_due, (by show 6 < 1000; decide), ?_⟩
    refine ⟨_, rfl, _, rfl, a, D.c_Thing, dx, _, rfl, upd_same, T.l_Thing, T.n_Thing_rest, (by show 6 < 1000; decide), ?_⟩
    have es' : sidI s' = sidI s := by show (sid s' : Int) = (sid s : Int); rw [es]
    have ht : ({ t with chn := sw s', due := (thOf s').due, rst := (thOf s').rst } : Th) = thOf s' := th_move (N.num.trans es'.symm) e1 e2
    have hf : putF "rest" (.int (thOf s').rst) (putF "due" (.int (thOf s').due) (putF "chain" (.int (sw s' : Int)) (thF t))) = thF (thOf s') := by
      rw [← ht]; rfl
    rw [upd_upd, upd_upd, hf]
    have R2 := R1.setTh (dx := dx) (t' := thOf s') hg (by rw [num_thOf, es', N.num])
    have RD := (N.ready.set (some (thOf s')))
    refine ⟨_, rfl, _, rfl, c, _, sidI s, a, thOf s', rfl, R2.1, at1_same, ?_, fun H3 R3 K3 => ?_⟩
    · refine Ready.fit (d := cal.without (sid s)) (id := sidI s) ?_ (by rw [chn_thOf]; exact sw_lt s')
      show Ready _ _ (offRow m.row t) (fun j => (at1 m.get (sidI s) (some (a, thOf s')) j).map Prod.snd)
      rw [th_at1]; exact RD
    · refine k H3 _ ⟨R3, ?_⟩ (K1.trans (R2.2.trans K3))
      have := N.moved (s' := s') es ok
      show Good _ m.clock (putRow (fun j => (at1 m.get (sidI s) (some (a, thOf s')) j).map Prod.snd) (offRow m.row t) (thOf s') false) (fun j => (at1 m.get (sidI s) (some (a, thOf s')) j).map Prod.snd) m.n
      rw [th_at1]; exact this
/-- what the four moves ask of a thing -/
structure Movable (D : Ads) (H : Hp) (c : Addr) (m : M) (a : Addr) (cal : Vbdead.Cal) (s : Vbdead.Spot) (t : Th) (y : Vbdead.Item) : Prop where
  rep : Rep D H c m
  get : m.get (sidI s) = some (a, t)
  near : Near cal s t m.clock m.row m.th m.n
  id : y.id = sid s
  ok : okItem y
  pri : t.pri = y.prio
  hol : t.hol = (y.held : Int)
def sp_move_to_current (D : Ads) : Sp := fun vs H Q _ => ∃ c m a cal s t y, vs = [.ref c, .ref a] ∧ Movable D H c m a cal s t y ∧
  ∀ H' m', CalAt D H' c m' ((cal.without (sid s)).onCurrent y) → Kept c m H m' H' → Q .non H'
theorem ok_move_to_current (T : Txt K mg D) : FnOk P w K mg base CX0 5 D.f_move_to_current D.d_move_to_current ["calendar", "thing"] (sp_move_to_current D) := by
  refine T.F_move_to_current.ok sc_move_to_current (fun vs H Q E h => ?_) (fun cdv A outer s H vs Q E hr h => ?_)
  · obtain ⟨c, m, a, cal, s, t, y, rfl, _⟩ := h
    rfl
  · obtain ⟨c, m, a, cal, s, t, y, rfl, V, k⟩ := h
    refine ⟨_, pss_one (ps_expr (pe_call (ok_move T) (hr.mono (by decide)) rfl T.g_move T.F_move.kp T.b_move .nil pass0 (pa_cons (pv 0) (pa_cons (pv 1) (pa_cons (pe_glob (v := .int (0)) rfl T.c_CURRENT ⟨_, rfl⟩) (pa_cons pe_int (pa_cons pe_int pa_nil))))))), ?_⟩
    exact ⟨_, rfl, _, rfl, c, m, a, cal, s, t, .current y, rfl, V.rep, V.get, V.near, V.id, V.ok, V.pri, V.hol, k⟩
def sp_move_to_future (D : Ads) : Sp := fun vs H Q _ => ∃ c m a cal s t y, ∃ d : Nat, vs = [.ref c, .ref a, .int (d : Int)] ∧ Movable D H c m a cal s t y ∧ y.held = 0 ∧ d ≤ 10000000000000 ∧
  ∀ H' m', CalAt D H' c m' ((cal.without (sid s)).onFuture (cal.clock + d) y) → Kept c m H m' H' → Q .non H'
theorem ok_move_to_future (T : Txt K mg D) : FnOk P w K mg base CX0 5 D.f_move_to_future D.d_move_to_future ["calendar", "thing", "wait"] (sp_move_to_future D) := by
  refine T.F_move_to_future.ok sc_move_to_future (fun vs H Q E h => ?_) (fun cdv A outer s H vs Q E hr h => ?_)
  · obtain ⟨c, m, a, cal, s, t, y, d, rfl, _⟩ := h
    rfl
  · obtain ⟨c, m, a, cal, s, t, y, d, rfl, V, h0, hd, k⟩ := h
    obtain ⟨dc, hc⟩ := V.rep.cal
    refine ⟨_, pss_one (ps_expr (pe_call (ok_move T) (hr.mono (by decide)) rfl T.g_move T.F_move.kp T.b_move .nil pass0 (pa_cons (pv 0) (pa_cons (pv 1) (pa_cons (pe_glob (v := .int (1)) rfl T.c_FUTURE ⟨_, rfl⟩) (pa_cons (pe_op op_add (pe_fld (pv 0) rfl) (pv 2)) (pa_cons pe_int pa_nil))))))), ?_⟩
    refine ⟨_, rfl, _, rfl, _, rfl, c, D.c_Calendar, dc, _, _, rfl, hc, T.l_Calendar, T.n_Calendar_clock, rfl, _, rfl, _, _, rfl, rfl, c, m, a, cal, s, t, .future (cal.clock + d) y, ?_, V.rep, V.get, V.near, V.id, ⟨V.ok, h0, by omega, by omega⟩, V.pri, V.hol, k⟩
    have e : m.clock + (d : Int) = ((cal.clock + d : Nat) : Int) := by rw [V.near.clk]; omega
    show [L2.V.ref c, .ref a, .int 1, .int (m.clock + (d : Int)), .int 0] = _
    rw [e]; rfl
def sp_move_to_frozen (D : Ads) : Sp := fun vs H Q _ => ∃ c m a cal s t y, ∃ d : Nat, vs = [.ref c, .ref a, .int (d : Int)] ∧ Movable D H c m a cal s t y ∧ 1 ≤ y.held ∧ d ≤ 10000000000000 ∧
  ∀ H' m', CalAt D H' c m' ((cal.without (sid s)).onFrozen d y) → Kept c m H m' H' → Q .non H'
theorem ok_move_to_frozen (T : Txt K mg D) : FnOk P w K mg base CX0 5 D.f_move_to_frozen D.d_move_to_frozen ["calendar", "thing", "rest"] (sp_move_to_frozen D) := by
  refine T.F_move_to_frozen.ok sc_move_to_frozen (fun vs H Q E h => ?_) (fun cdv A outer s H vs Q E hr h => ?_)
  · obtain ⟨c, m, a, cal, s, t, y, d, rfl, _⟩ := h
    rfl
  · obtain ⟨c, m, a, cal, s, t, y, d, rfl, V, h0, hd, k⟩ := h
    refine ⟨_, pss_one (ps_expr (pe_call (ok_move T) (hr.mono (by decide)) rfl T.g_move T.F_move.kp T.b_move .nil pass0 (pa_cons (pv 0) (pa_cons (pv 1) (pa_cons (pe_glob (v := .int (2)) rfl T.c_FROZEN ⟨_, rfl⟩) (pa_cons pe_int (pa_cons (pv 2) pa_nil))))))), ?_⟩
    exact ⟨_, rfl, _, rfl, _, rfl, c, m, a, cal, s, t, .frozen d y, rfl, V.rep, V.get, V.near, V.id, ⟨V.ok, h0, hd⟩, V.pri, V.hol, k⟩
def sp_move_to_asleep (D : Ads) : Sp := fun vs H Q _ => ∃ c m a cal s t y, vs = [.ref c, .ref a] ∧ Movable D H c m a cal s t y ∧
  ∀ H' m', CalAt D H' c m' ((cal.without (sid s)).onAsleep y) → Kept c m H m' H' → Q .non H'
theorem ok_move_to_asleep (T : Txt K mg D) : FnOk P w K mg base CX0 5 D.f_move_to_asleep D.d_move_to_asleep ["calendar", "thing"] (sp_move_to_asleep D) := by
  refine T.F_move_to_asleep.ok sc_move_to_asleep (fun vs H Q E h => ?_) (fun cdv A outer s H vs Q E hr h => ?_)
  · obtain ⟨c, m, a, cal, s, t, y, rfl, _⟩ := h
    rfl
  · obtain ⟨c, m, a, cal, s, t, y, rfl, V, k⟩ := h
    refine ⟨_, pss_one (ps_expr (pe_call (ok_move T) (hr.mono (by decide)) rfl T.g_move T.F_move.kp T.b_move .nil pass0 (pa_cons (pv 0) (pa_cons (pv 1) (pa_cons (pe_glob (v := .int (3)) rfl T.c_ASLEEP ⟨_, rfl⟩) (pa_cons pe_int (pa_cons pe_int pa_nil))))))), ?_⟩
    exact ⟨_, rfl, _, rfl, c, m, a, cal, s, t, .asleep y, rfl, V.rep, V.get, V.near, V.id, V.ok, V.pri, V.hol, k⟩
def sp_time_left (D : Ads) : Sp := fun vs H Q _ => ∃ c m i a t, vs = [.ref c, .ref a] ∧ Rep D H c m ∧ m.get i = some (a, t) ∧ Q (.int (if t.chn = 1 then t.due - m.clock else t.rst)) H
theorem ok_time_left (T : Txt K mg D) : FnOk P w K mg base CX0 1 D.f_time_left D.d_time_left ["calendar", "thing"] (sp_time_left D) := by
  refine T.F_time_left.ok sc_time_left (fun vs H Q E h => ?_) (fun cdv A outer s H vs Q E hr h => ?_)
  · obtain ⟨c, m, i, a, t, rfl, _⟩ := h
    rfl
  · obtain ⟨c, m, i, a, t, rfl, R, hg, k⟩ := h
    obtain ⟨dc, hc⟩ := R.cal
    obtain ⟨⟨dx, ha⟩, hi⟩ := R.thg i a t hg
    refine ⟨_, pss_cons (ps_if (pt_cmpR op_eq (pe_fld (pv 1) rfl) (pe_glob (v := .int (1)) rfl T.c_FUTURE ⟨_, rfl⟩) (nomark _)) (pss_one (ps_ret (pe_op op_sub (pe_fld (pv 1) rfl) (pe_fld (pv 0) rfl)))) pss_nil)
      (pss_one (ps_ret (pe_fld (pv 1) rfl))), ?_⟩
    refine ⟨_, rfl, a, D.c_Thing, dx, _, _, rfl, ha, T.l_Thing, T.n_Thing_chain, rfl, rfl, _, rfl, iteI (fun e => ?_) (fun e => ?_)⟩
    · rw [if_pos (by omega)] at k
      exact ⟨_, rfl, a, D.c_Thing, dx, _, _, rfl, ha, T.l_Thing, T.n_Thing_due, rfl, _, rfl, c, D.c_Calendar, dc, _, _, rfl, hc, T.l_Calendar, T.n_Calendar_clock, rfl, _, _, rfl, rfl, k⟩
    · rw [if_neg (by omega)] at k
      exact ⟨_, rfl, a, D.c_Thing, dx, _, _, rfl, ha, T.l_Thing, T.n_Thing_rest, rfl, k⟩
def sp_begin_wait (D : Ads) : Sp := fun vs H Q _ => ∃ c m a cal s t y, ∃ d : Nat, vs = [.ref c, .ref a, .int (d : Int)] ∧ Movable D H c m a cal s t y ∧ d ≤ 10000000000000 ∧
  ∀ H' m', CalAt D H' c m' ((cal.without (sid s)).waits y d) → Kept c m H m' H' → Q .non H'
theorem ok_begin_wait (T : Txt K mg D) : FnOk P w K mg base CX0 6 D.f_begin_wait D.d_begin_wait ["calendar", "thing", "wait"] (sp_begin_wait D) := by
  refine T.F_begin_wait.ok sc_begin_wait (fun vs H Q E h => ?_) (fun cdv A outer s H vs Q E hr h => ?_)
  · obtain ⟨c, m, a, cal, s, t, y, d, rfl, _⟩ := h
    rfl
  · obtain ⟨c, m, a, cal, s, t, y, d, rfl, V, hd, k⟩ := h
    obtain ⟨⟨dx, ha⟩, _⟩ := V.rep.thg _ a t V.get
    have hh := V.hol
    refine ⟨_, pss_one (ps_if (pt_cmpR op_eq (pe_fld (pv 1) rfl) pe_int (nomark _)) (pss_one (ps_expr (pe_call (ok_move_to_future T) (hr.mono (by decide)) rfl T.g_move_to_future T.F_move_to_future.kp T.b_move_to_future .nil pass0 (pa_cons (pv 0) (pa_cons (pv 1) (pa_cons (pv 2) pa_nil)))))) (pss_one (ps_expr (pe_call (ok_move_to_frozen T) (hr.mono (by decide)) rfl T.g_move_to_frozen T.F_move_to_frozen.kp T.b_move_to_frozen .nil pass0 (pa_cons (pv 0) (pa_cons (pv 1) (pa_cons (pv 2) pa_nil))))))), ?_⟩
    refine ⟨_, rfl, a, D.c_Thing, dx, _, _, rfl, ha, T.l_Thing, T.n_Thing_holds, rfl, rfl, _, rfl, iteI (fun e => ?_) (fun e => ?_)⟩
    · have h0 : y.held = 0 := by omega
      refine ⟨_, rfl, _, rfl, _, rfl, c, m, a, cal, s, t, y, d, rfl, V, h0, hd, fun H' m' A1 K1 => k H' m' ?_ K1⟩
      unfold Vbdead.Cal.waits
      rw [if_pos h0]; exact A1
    · have h0 : ¬ y.held = 0 := by omega
      refine ⟨_, rfl, _, rfl, _, rfl, c, m, a, cal, s, t, y, d, rfl, V, by omega, hd, fun H' m' A1 K1 => k H' m' ?_ K1⟩
      unfold Vbdead.Cal.waits
      rw [if_neg h0]; exact A1
end
end WP
end
section
set_option Elab.async false
set_option linter.all false
set_option maxRecDepth 100000
namespace WP
open PySem PySem.Spec PyProof.Rows L2 WM
section
variable {P : Program} {w : World} {K : PySem.W.Frag} {mg : Str → Option Value} {base : Heap} {D : Ads}
def sp_call1 (D : Ads) (f : Int → Vbdead.Call) : Sp := fun vs H Q _ => ∃ c m cal, ∃ id : Int, vs = [.ref c, .int id] ∧ CalAt D H c m cal ∧ Done D c m H (Vbdead.step cal (f id)).1 (Vbdead.step cal (f id)).2 Q
def sp_call2 (D : Ads) (f : Int → Int → Vbdead.Call) : Sp := fun vs H Q _ => ∃ c m cal, ∃ id x : Int, vs = [.ref c, .int id, .int x] ∧ CalAt D H c m cal ∧ Done D c m H (Vbdead.step cal (f id x)).1 (Vbdead.step cal (f id x)).2 Q
theorem Good.movable {H : Hp} {c : Addr} {m : M} {a : Addr} {cal : Vbdead.Cal} {s : Vbdead.Spot} (R : Rep D H c m) (G : Good cal m.clock m.row m.th m.n) (e : cal.spot (sidI s) = some s) (hg : m.get (sidI s) = some (a, thOf s)) : Movable D H c m a cal s (thOf s) s.item :=
  ⟨R, hg, G.near e, rfl, (G.snd.ok s (spot_some_mem e).1).item, pri_thOf s, hol_thOf s⟩
/-- answered by a number alone, nothing changed -/
theorem Done.no {D : Ads} {c : Addr} {m : M} {H : Hp} {cal : Vbdead.Cal} {x : Vbdead.Cal × List Int} {r : Int} {Q : VK} (d : Done D c m H x.1 x.2 Q) (A : CalAt D H c m cal) (h : x = (cal, [r])) : ∀ p, H p = none → Q (.ref p) (upd H p (.lst [.int r])) := by
  subst h
  exact fun p hp => Done.ret d A Kept.refl p hp
theorem Done.yes {D : Ads} {c : Addr} {m m1 : M} {H H1 : Hp} {cal : Vbdead.Cal} {x : Vbdead.Cal × List Int} {Q : VK} {ans : List Int} (d : Done D c m H x.1 x.2 Q) (h : x = (cal, ans)) (A : CalAt D H1 c m1 cal) (k : Kept c m H m1 H1) : ∀ p, H1 p = none → Q (.ref p) (upd H1 p (.lst (ans.map V.int))) := by
  subst h
  exact fun p hp => Done.ret d A k p hp

/-! ### delay -/
def sp_delay (D : Ads) : Sp := sp_call2 D .delay
theorem ok_delay (T : Txt K mg D) : FnOk P w K mg base CX0 7 D.f_delay D.d_delay ["calendar", "number", "wait"] (sp_delay D) := by
  refine T.F_delay.ok sc_delay (fun vs H Q E h => ?_) (fun cdv A outer s H vs Q E hr h => ?_)
  · obtain ⟨c, m, cal, id, x, rfl, _⟩ := h
    rfl
  · obtain ⟨c, m, cal, id, x, rfl, ⟨R, G⟩, k⟩ := h
    obtain ⟨dc, hc⟩ := R.cal
    obtain ⟨kvs, hd, k1, k2, k3⟩ := R.dic
    refine ⟨_, pss_cons (ps_if (pt_cmp (pc_dnotin (hu_of hr) (pv 1) (pe_fld (pv 0) rfl))) (pss_one (ps_ret (pe_lst (pa_cons (pe_glob (v := .int (-5)) rfl T.c_NOT_KNOWN ⟨_, rfl⟩) pa_nil)))) pss_nil)
      (pss_cons (ps_set (i := 3) sc_delay.nd rfl (Or.inl rfl) (pe_dget (hu_of hr) (pe_fld (pv 0) rfl) (pv 1) (fun _ _ => rfl)))
      (pss_cons (ps_if (pt_not (pt_chain op_le op_le pe_int (pv 2) (pe_glob (v := .int (10000000000000)) rfl T.c_FAR ⟨_, rfl⟩))) (pss_one (ps_ret (pe_lst (pa_cons (pe_glob (v := .int (-6)) rfl T.c_BAD_TIME ⟨_, rfl⟩) pa_nil)))) pss_nil)
      (pss_cons (ps_if (PW.pt (pw_or (pt_cmpR op_eq (pe_fld (pv 3) rfl) (pe_glob (v := .int (1)) rfl T.c_FUTURE ⟨_, rfl⟩) (nomark _)) (pw_or1 (pt_cmpR op_eq (pe_fld (pv 3) rfl) (pe_glob (v := .int (2)) rfl T.c_FROZEN ⟨_, rfl⟩) (nomark _))))) (pss_one (ps_ret (pe_lst (pa_cons (pe_glob (v := .int (-7)) rfl T.c_WRONG_CHAIN ⟨_, rfl⟩) pa_nil)))) pss_nil)
      (pss_cons (ps_expr (pe_call (ok_begin_wait T) (hr.mono (by decide)) rfl T.g_begin_wait T.F_begin_wait.kp T.b_begin_wait .nil pass0 (pa_cons (pv 0) (pa_cons (pv 3) (pa_cons (pv 2) pa_nil)))))
      (pss_one (ps_ret (pe_lst (pa_cons (pe_glob (v := .int (0)) rfl T.c_DONE ⟨_, rfl⟩) pa_nil)))))))), ?_⟩
    cases e : cal.spot id with
    | none =>
      have hv : valV kvs (Sum.inl id) = none := by rw [k3, M.get_none (G.toNone e)]; rfl
      have ek : Vbdead.step cal (.delay id x) = (cal, [-5]) := by
        simp only [Vbdead.step, Vbdead.delay, e, Vbdead.done]
      rw [ek] at k
      refine ⟨_, rfl, _, rfl, c, D.c_Calendar, dc, _, _, rfl, hc, T.l_Calendar, T.n_Calendar_things, rfl, m.d, none, rfl, (by rw [← hv]; exact DGet.k (k := Sum.inl id) hd), _, rfl, iteT ?_⟩
      exact ⟨by decide, fun p hp => k.ret ⟨R, G⟩ Kept.refl p hp⟩
    | some s =>
      obtain ⟨a, hg⟩ := M.get_of_th (G.toSome e)
      obtain ⟨hs, hid⟩ := spot_some_mem e
      have hv : valV kvs (Sum.inl id) = some (.ref a) := by rw [k3, hg]; rfl
      have N := G.near e
      obtain ⟨⟨dx, ha⟩, _⟩ := R.thg id a _ hg
      have hok := G.snd.ok s hs
      refine ⟨_, rfl, _, rfl, c, D.c_Calendar, dc, _, _, rfl, hc, T.l_Calendar, T.n_Calendar_things, rfl, m.d, some (.ref a), rfl, (by rw [← hv]; exact DGet.k (k := Sum.inl id) hd), _, rfl, iteF ?_⟩
      refine ⟨_, rfl, c, D.c_Calendar, dc, _, _, rfl, hc, T.l_Calendar, T.n_Calendar_things, rfl, _, rfl, m.d, .ref a, rfl, (by rw [← hv]; exact DGet.k (k := Sum.inl id) hd), ?_⟩
      have bad : ¬ (0 ≤ x ∧ x ≤ 10000000000000) → ∀ p, H p = none → Q (.ref p) (upd H p (.lst [.int (-6)])) := fun hb => k.no ⟨R, G⟩ (st_delay_6 e hb)
      refine ⟨_, rfl, _, _, rfl, rfl, _, rfl, iteD (fun h1 => ⟨_, _, rfl, rfl, _, rfl, ?_⟩) (fun h1 => ⟨_, rfl, iteT ⟨by decide, bad fun h => h1 h.1⟩⟩)⟩
      by_cases h2 : x ≤ 10000000000000
      case neg =>
        rw [decide_eq_false h2]
        exact iteT ⟨by decide, bad fun h => h2 h.2⟩
      rw [decide_eq_true h2]
      refine iteF ?_
      have h7 : sw s = 1 ∨ sw s = 2 → ∀ p, H p = none → Q (.ref p) (upd H p (.lst [.int (-7)])) := fun hw => k.no ⟨R, G⟩ (st_delay_7 e ⟨h1, h2⟩ hw)
      have hch := chn_thOf s
      refine ⟨_, rfl, a, D.c_Thing, dx, _, _, rfl, ha, T.l_Thing, T.n_Thing_chain, rfl, rfl, _, rfl, iteI (fun e1 => iteT ⟨by decide, h7 (by omega)⟩) (fun e1 => ?_)⟩
      refine ⟨_, rfl, a, D.c_Thing, dx, _, _, rfl, ha, T.l_Thing, T.n_Thing_chain, rfl, rfl, _, rfl, iteI (fun e2 => ⟨by decide, h7 (by omega)⟩) (fun e2 => ?_)⟩
      obtain ⟨d, rfl⟩ : ∃ d : Nat, x = (d : Int) := ⟨x.toNat, by omega⟩
      have ek := st_delay_ok e ⟨h1, h2⟩ (by omega) (by omega)
      subst hid
      exact ⟨_, rfl, _, rfl, _, rfl, c, m, a, cal, s, thOf s, s.item, d, rfl, Good.movable R G e hg, by omega, fun H' m' A1 K1 => ⟨by decide, k.yes ek A1 K1⟩⟩

/-! ### at -/
def sp_at (D : Ads) : Sp := sp_call2 D .at_
theorem ok_at (T : Txt K mg D) : FnOk P w K mg base CX0 8 D.f_at D.d_at ["calendar", "number", "time"] (sp_at D) := by
  refine T.F_at.ok sc_at (fun vs H Q E h => ?_) (fun cdv A outer s H vs Q E hr h => ?_)
  · obtain ⟨c, m, cal, id, x, rfl, _⟩ := h
    rfl
  · obtain ⟨c, m, cal, id, x, rfl, ⟨R, G⟩, k⟩ := h
    obtain ⟨dc, hc⟩ := R.cal
    obtain ⟨kvs, hd, k1, k2, k3⟩ := R.dic
    refine ⟨_, pss_cons (ps_if (pt_cmp (pc_dnotin (hu_of hr) (pv 1) (pe_fld (pv 0) rfl))) (pss_one (ps_ret (pe_lst (pa_cons (pe_glob (v := .int (-5)) rfl T.c_NOT_KNOWN ⟨_, rfl⟩) pa_nil)))) pss_nil)
      (pss_cons (ps_if (pt_not (pt_chain op_le op_le (pe_fld (pv 0) rfl) (pv 2) (pe_glob (v := .int (1000000000000000)) rfl T.c_END ⟨_, rfl⟩))) (pss_one (ps_ret (pe_lst (pa_cons (pe_glob (v := .int (-6)) rfl T.c_BAD_TIME ⟨_, rfl⟩) pa_nil)))) pss_nil)
      (pss_one (ps_ret (pe_call (ok_delay T) (hr.mono (by decide)) rfl T.g_delay T.F_delay.kp T.b_delay .nil pass0 (pa_cons (pv 0) (pa_cons (pv 1) (pa_cons (pe_op op_sub (pv 2) (pe_fld (pv 0) rfl)) pa_nil))))))), ?_⟩
    cases e : cal.spot id with
    | none =>
      have hv : valV kvs (Sum.inl id) = none := by rw [k3, M.get_none (G.toNone e)]; rfl
      have ek : Vbdead.step cal (.at_ id x) = (cal, [-5]) := by
        simp only [Vbdead.step, Vbdead.at_, e, Vbdead.done]
      rw [ek] at k
      refine ⟨_, rfl, _, rfl, c, D.c_Calendar, dc, _, _, rfl, hc, T.l_Calendar, T.n_Calendar_things, rfl, m.d, none, rfl, (by rw [← hv]; exact DGet.k (k := Sum.inl id) hd), _, rfl, iteT ?_⟩
      exact ⟨by decide, fun p hp => k.ret ⟨R, G⟩ Kept.refl p hp⟩
    | some s =>
      obtain ⟨a, hg⟩ := M.get_of_th (G.toSome e)
      obtain ⟨hs, hid⟩ := spot_some_mem e
      have hv : valV kvs (Sum.inl id) = some (.ref a) := by rw [k3, hg]; rfl
      have N := G.near e
      obtain ⟨⟨dx, ha⟩, _⟩ := R.thg id a _ hg
      have hok := G.snd.ok s hs
      refine ⟨_, rfl, _, rfl, c, D.c_Calendar, dc, _, _, rfl, hc, T.l_Calendar, T.n_Calendar_things, rfl, m.d, some (.ref a), rfl, (by rw [← hv]; exact DGet.k (k := Sum.inl id) hd), _, rfl, iteF ?_⟩
      have hclk := G.clk
      have bad : ¬ ((cal.clock : Int) ≤ x ∧ x ≤ 1000000000000000) → ∀ p, H p = none → Q (.ref p) (upd H p (.lst [.int (-6)])) := fun hb => k.no ⟨R, G⟩ (st_at_6 e hb)
      refine ⟨_, rfl, c, D.c_Calendar, dc, _, _, rfl, hc, T.l_Calendar, T.n_Calendar_clock, rfl, _, rfl, _, _, rfl, rfl, _, rfl, iteD (fun h1 => ⟨_, _, rfl, rfl, _, rfl, ?_⟩) (fun h1 => ⟨_, rfl, iteT ⟨by decide, bad fun h => h1 (by rw [hclk]; exact h.1)⟩⟩)⟩
      by_cases h2 : x ≤ 1000000000000000
      case neg =>
        rw [decide_eq_false h2]
        exact iteT ⟨by decide, bad fun h => h2 h.2⟩
      rw [decide_eq_true h2]
      refine iteF ?_
      refine ⟨_, rfl, _, rfl, _, rfl, _, rfl, c, D.c_Calendar, dc, _, _, rfl, hc, T.l_Calendar, T.n_Calendar_clock, rfl, _, _, rfl, rfl, c, m, cal, id, x - m.clock, rfl, ⟨R, G⟩, ?_⟩
      rw [hclk, ← st_at e ⟨by rw [← hclk]; exact h1, h2⟩]
      exact k

/-! ### retime -/
def sp_retime (D : Ads) : Sp := sp_call2 D .retime
theorem ok_retime (T : Txt K mg D) : FnOk P w K mg base CX0 7 D.f_retime D.d_retime ["calendar", "number", "wait"] (sp_retime D) := by
  refine T.F_retime.ok sc_retime (fun vs H Q E h => ?_) (fun cdv A outer s H vs Q E hr h => ?_)
  · obtain ⟨c, m, cal, id, x, rfl, _⟩ := h
    rfl
  · obtain ⟨c, m, cal, id, x, rfl, ⟨R, G⟩, k⟩ := h
    obtain ⟨dc, hc⟩ := R.cal
    obtain ⟨kvs, hd, k1, k2, k3⟩ := R.dic
    refine ⟨_, pss_cons (ps_if (pt_cmp (pc_dnotin (hu_of hr) (pv 1) (pe_fld (pv 0) rfl))) (pss_one (ps_ret (pe_lst (pa_cons (pe_glob (v := .int (-5)) rfl T.c_NOT_KNOWN ⟨_, rfl⟩) pa_nil)))) pss_nil)
      (pss_cons (ps_set (i := 3) sc_retime.nd rfl (Or.inl rfl) (pe_dget (hu_of hr) (pe_fld (pv 0) rfl) (pv 1) (fun _ _ => rfl)))
      (pss_cons (ps_if (pt_not (pt_chain op_le op_le pe_int (pv 2) (pe_glob (v := .int (10000000000000)) rfl T.c_FAR ⟨_, rfl⟩))) (pss_one (ps_ret (pe_lst (pa_cons (pe_glob (v := .int (-6)) rfl T.c_BAD_TIME ⟨_, rfl⟩) pa_nil)))) pss_nil)
      (pss_cons (ps_if (PW.pt (pw_or (pt_cmpR op_eq (pe_fld (pv 3) rfl) (pe_glob (v := .int (0)) rfl T.c_CURRENT ⟨_, rfl⟩) (nomark _)) (pw_or1 (pt_cmpR op_eq (pe_fld (pv 3) rfl) (pe_glob (v := .int (3)) rfl T.c_ASLEEP ⟨_, rfl⟩) (nomark _))))) (pss_one (ps_ret (pe_lst (pa_cons (pe_glob (v := .int (-7)) rfl T.c_WRONG_CHAIN ⟨_, rfl⟩) pa_nil)))) pss_nil)
      (pss_cons (ps_expr (pe_call (ok_begin_wait T) (hr.mono (by decide)) rfl T.g_begin_wait T.F_begin_wait.kp T.b_begin_wait .nil pass0 (pa_cons (pv 0) (pa_cons (pv 3) (pa_cons (pv 2) pa_nil)))))
      (pss_one (ps_ret (pe_lst (pa_cons (pe_glob (v := .int (0)) rfl T.c_DONE ⟨_, rfl⟩) pa_nil)))))))), ?_⟩
    cases e : cal.spot id with
    | none =>
      have hv : valV kvs (Sum.inl id) = none := by rw [k3, M.get_none (G.toNone e)]; rfl
      have ek : Vbdead.step cal (.retime id x) = (cal, [-5]) := by
        simp only [Vbdead.step, Vbdead.retime, e, Vbdead.done]
      rw [ek] at k
      refine ⟨_, rfl, _, rfl, c, D.c_Calendar, dc, _, _, rfl, hc, T.l_Calendar, T.n_Calendar_things, rfl, m.d, none, rfl, (by rw [← hv]; exact DGet.k (k := Sum.inl id) hd), _, rfl, iteT ?_⟩
      exact ⟨by decide, fun p hp => k.ret ⟨R, G⟩ Kept.refl p hp⟩
    | some s =>
      obtain ⟨a, hg⟩ := M.get_of_th (G.toSome e)
      obtain ⟨hs, hid⟩ := spot_some_mem e
      have hv : valV kvs (Sum.inl id) = some (.ref a) := by rw [k3, hg]; rfl
      have N := G.near e
      obtain ⟨⟨dx, ha⟩, _⟩ := R.thg id a _ hg
      have hok := G.snd.ok s hs
      refine ⟨_, rfl, _, rfl, c, D.c_Calendar, dc, _, _, rfl, hc, T.l_Calendar, T.n_Calendar_things, rfl, m.d, some (.ref a), rfl, (by rw [← hv]; exact DGet.k (k := Sum.inl id) hd), _, rfl, iteF ?_⟩
      refine ⟨_, rfl, c, D.c_Calendar, dc, _, _, rfl, hc, T.l_Calendar, T.n_Calendar_things, rfl, _, rfl, m.d, .ref a, rfl, (by rw [← hv]; exact DGet.k (k := Sum.inl id) hd), ?_⟩
      have bad : ¬ (0 ≤ x ∧ x ≤ 10000000000000) → ∀ p, H p = none → Q (.ref p) (upd H p (.lst [.int (-6)])) := fun hb => k.no ⟨R, G⟩ (st_retime_6 e hb)
      refine ⟨_, rfl, _, _, rfl, rfl, _, rfl, iteD (fun h1 => ⟨_, _, rfl, rfl, _, rfl, ?_⟩) (fun h1 => ⟨_, rfl, iteT ⟨by decide, bad fun h => h1 h.1⟩⟩)⟩
      by_cases h2 : x ≤ 10000000000000
      case neg =>
        rw [decide_eq_false h2]
        exact iteT ⟨by decide, bad fun h => h2 h.2⟩
      rw [decide_eq_true h2]
      refine iteF ?_
      have h7 : sw s = 0 ∨ sw s = 3 → ∀ p, H p = none → Q (.ref p) (upd H p (.lst [.int (-7)])) := fun hw => k.no ⟨R, G⟩ (st_retime_7 e ⟨h1, h2⟩ hw)
      have hch := chn_thOf s
      refine ⟨_, rfl, a, D.c_Thing, dx, _, _, rfl, ha, T.l_Thing, T.n_Thing_chain, rfl, rfl, _, rfl, iteI (fun e1 => iteT ⟨by decide, h7 (by omega)⟩) (fun e1 => ?_)⟩
      refine ⟨_, rfl, a, D.c_Thing, dx, _, _, rfl, ha, T.l_Thing, T.n_Thing_chain, rfl, rfl, _, rfl, iteI (fun e2 => ⟨by decide, h7 (by omega)⟩) (fun e2 => ?_)⟩
      obtain ⟨d, rfl⟩ : ∃ d : Nat, x = (d : Int) := ⟨x.toNat, by omega⟩
      have ek := st_retime_ok e hok ⟨h1, h2⟩ (by omega) (by omega)
      subst hid
      exact ⟨_, rfl, _, rfl, _, rfl, c, m, a, cal, s, thOf s, s.item, d, rfl, Good.movable R G e hg, by omega, fun H' m' A1 K1 => ⟨by decide, k.yes ek A1 K1⟩⟩

/-! ### sleep, wake -/
def sp_sleep (D : Ads) : Sp := sp_call1 D .sleep
theorem ok_sleep (T : Txt K mg D) : FnOk P w K mg base CX0 6 D.f_sleep D.d_sleep ["calendar", "number"] (sp_sleep D) := by
  refine T.F_sleep.ok sc_sleep (fun vs H Q E h => ?_) (fun cdv A outer s H vs Q E hr h => ?_)
  · obtain ⟨c, m, cal, id, rfl, _⟩ := h
    rfl
  · obtain ⟨c, m, cal, id, rfl, ⟨R, G⟩, k⟩ := h
    obtain ⟨dc, hc⟩ := R.cal
    obtain ⟨kvs, hd, k1, k2, k3⟩ := R.dic
    refine ⟨_, pss_cons (ps_if (pt_cmp (pc_dnotin (hu_of hr) (pv 1) (pe_fld (pv 0) rfl))) (pss_one (ps_ret (pe_lst (pa_cons (pe_glob (v := .int (-5)) rfl T.c_NOT_KNOWN ⟨_, rfl⟩) pa_nil)))) pss_nil)
      (pss_cons (ps_set (i := 2) sc_sleep.nd rfl (Or.inl rfl) (pe_dget (hu_of hr) (pe_fld (pv 0) rfl) (pv 1) (fun _ _ => rfl)))
      (pss_cons (ps_if (pt_cmpR op_eq (pe_fld (pv 2) rfl) (pe_glob (v := .int (3)) rfl T.c_ASLEEP ⟨_, rfl⟩) (nomark _)) (pss_one (ps_ret (pe_lst (pa_cons (pe_glob (v := .int (-7)) rfl T.c_WRONG_CHAIN ⟨_, rfl⟩) pa_nil)))) pss_nil)
      (pss_cons (ps_expr (pe_call (ok_move_to_asleep T) (hr.mono (by decide)) rfl T.g_move_to_asleep T.F_move_to_asleep.kp T.b_move_to_asleep .nil pass0 (pa_cons (pv 0) (pa_cons (pv 2) pa_nil))))
      (pss_one (ps_ret (pe_lst (pa_cons (pe_glob (v := .int (0)) rfl T.c_DONE ⟨_, rfl⟩) pa_nil))))))), ?_⟩
    cases e : cal.spot id with
    | none =>
      have hv : valV kvs (Sum.inl id) = none := by rw [k3, M.get_none (G.toNone e)]; rfl
      have ek : Vbdead.step cal (.sleep id) = (cal, [-5]) := by
        simp only [Vbdead.step, Vbdead.sleep, e, Vbdead.done]
      rw [ek] at k
      refine ⟨_, rfl, _, rfl, c, D.c_Calendar, dc, _, _, rfl, hc, T.l_Calendar, T.n_Calendar_things, rfl, m.d, none, rfl, (by rw [← hv]; exact DGet.k (k := Sum.inl id) hd), _, rfl, iteT ?_⟩
      exact ⟨by decide, fun p hp => k.ret ⟨R, G⟩ Kept.refl p hp⟩
    | some s =>
      obtain ⟨a, hg⟩ := M.get_of_th (G.toSome e)
      obtain ⟨hs, hid⟩ := spot_some_mem e
      have hv : valV kvs (Sum.inl id) = some (.ref a) := by rw [k3, hg]; rfl
      have N := G.near e
      obtain ⟨⟨dx, ha⟩, _⟩ := R.thg id a _ hg
      have hok := G.snd.ok s hs
      refine ⟨_, rfl, _, rfl, c, D.c_Calendar, dc, _, _, rfl, hc, T.l_Calendar, T.n_Calendar_things, rfl, m.d, some (.ref a), rfl, (by rw [← hv]; exact DGet.k (k := Sum.inl id) hd), _, rfl, iteF ?_⟩
      refine ⟨_, rfl, c, D.c_Calendar, dc, _, _, rfl, hc, T.l_Calendar, T.n_Calendar_things, rfl, _, rfl, m.d, .ref a, rfl, (by rw [← hv]; exact DGet.k (k := Sum.inl id) hd), ?_⟩
      have hch := chn_thOf s
      refine ⟨_, rfl, a, D.c_Thing, dx, _, _, rfl, ha, T.l_Thing, T.n_Thing_chain, rfl, rfl, _, rfl, iteI (fun e1 => ⟨by decide, k.no ⟨R, G⟩ (st_sleep_7 e (by omega))⟩) (fun e1 => ?_)⟩
      have ek := st_sleep_ok e (by omega)
      subst hid
      exact ⟨_, rfl, _, rfl, c, m, a, cal, s, thOf s, s.item, rfl, Good.movable R G e hg, fun H' m' A1 K1 => ⟨by decide, k.yes ek A1 K1⟩⟩
def sp_wake (D : Ads) : Sp := sp_call1 D .wake
theorem ok_wake (T : Txt K mg D) : FnOk P w K mg base CX0 6 D.f_wake D.d_wake ["calendar", "number"] (sp_wake D) := by
  refine T.F_wake.ok sc_wake (fun vs H Q E h => ?_) (fun cdv A outer s H vs Q E hr h => ?_)
  · obtain ⟨c, m, cal, id, rfl, _⟩ := h
    rfl
  · obtain ⟨c, m, cal, id, rfl, ⟨R, G⟩, k⟩ := h
    obtain ⟨dc, hc⟩ := R.cal
    obtain ⟨kvs, hd, k1, k2, k3⟩ := R.dic
    refine ⟨_, pss_cons (ps_if (pt_cmp (pc_dnotin (hu_of hr) (pv 1) (pe_fld (pv 0) rfl))) (pss_one (ps_ret (pe_lst (pa_cons (pe_glob (v := .int (-5)) rfl T.c_NOT_KNOWN ⟨_, rfl⟩) pa_nil)))) pss_nil)
      (pss_cons (ps_set (i := 2) sc_wake.nd rfl (Or.inl rfl) (pe_dget (hu_of hr) (pe_fld (pv 0) rfl) (pv 1) (fun _ _ => rfl)))
      (pss_cons (ps_if (pt_cmpR op_ne (pe_fld (pv 2) rfl) (pe_glob (v := .int (3)) rfl T.c_ASLEEP ⟨_, rfl⟩) (nomark _)) (pss_one (ps_ret (pe_lst (pa_cons (pe_glob (v := .int (-7)) rfl T.c_WRONG_CHAIN ⟨_, rfl⟩) pa_nil)))) pss_nil)
      (pss_cons (ps_expr (pe_call (ok_move_to_current T) (hr.mono (by decide)) rfl T.g_move_to_current T.F_move_to_current.kp T.b_move_to_current .nil pass0 (pa_cons (pv 0) (pa_cons (pv 2) pa_nil))))
      (pss_one (ps_ret (pe_lst (pa_cons (pe_glob (v := .int (0)) rfl T.c_DONE ⟨_, rfl⟩) pa_nil))))))), ?_⟩
    cases e : cal.spot id with
    | none =>
      have hv : valV kvs (Sum.inl id) = none := by rw [k3, M.get_none (G.toNone e)]; rfl
      have ek : Vbdead.step cal (.wake id) = (cal, [-5]) := by
        simp only [Vbdead.step, Vbdead.wake, e, Vbdead.done]
      rw [ek] at k
      refine ⟨_, rfl, _, rfl, c, D.c_Calendar, dc, _, _, rfl, hc, T.l_Calendar, T.n_Calendar_things, rfl, m.d, none, rfl, (by rw [← hv]; exact DGet.k (k := Sum.inl id) hd), _, rfl, iteT ?_⟩
      exact ⟨by decide, fun p hp => k.ret ⟨R, G⟩ Kept.refl p hp⟩
    | some s =>
      obtain ⟨a, hg⟩ := M.get_of_th (G.toSome e)
      obtain ⟨hs, hid⟩ := spot_some_mem e
      have hv : valV kvs (Sum.inl id) = some (.ref a) := by rw [k3, hg]; rfl
      have N := G.near e
      obtain ⟨⟨dx, ha⟩, _⟩ := R.thg id a _ hg
      have hok := G.snd.ok s hs
      refine ⟨_, rfl, _, rfl, c, D.c_Calendar, dc, _, _, rfl, hc, T.l_Calendar, T.n_Calendar_things, rfl, m.d, some (.ref a), rfl, (by rw [← hv]; exact DGet.k (k := Sum.inl id) hd), _, rfl, iteF ?_⟩
      refine ⟨_, rfl, c, D.c_Calendar, dc, _, _, rfl, hc, T.l_Calendar, T.n_Calendar_things, rfl, _, rfl, m.d, .ref a, rfl, (by rw [← hv]; exact DGet.k (k := Sum.inl id) hd), ?_⟩
      have hch := chn_thOf s
      refine ⟨_, rfl, a, D.c_Thing, dx, _, _, rfl, ha, T.l_Thing, T.n_Thing_chain, rfl, rfl, _, rfl, iteN (fun e1 => ⟨by decide, k.no ⟨R, G⟩ (st_wake_7 e (by omega))⟩) (fun e1 => ?_)⟩
      have ek := st_wake_ok e (by omega)
      subst hid
      exact ⟨_, rfl, _, rfl, c, m, a, cal, s, thOf s, s.item, rfl, Good.movable R G e hg, fun H' m' A1 K1 => ⟨by decide, k.yes ek A1 K1⟩⟩

/-! ### drop -/
def sp_drop (D : Ads) : Sp := sp_call1 D .drop
theorem ok_drop (T : Txt K mg D) : FnOk P w K mg base CX0 2 D.f_drop D.d_drop ["calendar", "number"] (sp_drop D) := by
  refine T.F_drop.ok sc_drop (fun vs H Q E h => ?_) (fun cdv A outer s H vs Q E hr h => ?_)
  · obtain ⟨c, m, cal, id, rfl, _⟩ := h
    rfl
  · obtain ⟨c, m, cal, id, rfl, ⟨R, G⟩, k⟩ := h
    obtain ⟨dc, hc⟩ := R.cal
    obtain ⟨kvs, hd, k1, k2, k3⟩ := R.dic
    refine ⟨_, pss_cons (ps_if (pt_cmp (pc_dnotin (hu_of hr) (pv 1) (pe_fld (pv 0) rfl))) (pss_one (ps_ret (pe_lst (pa_cons (pe_glob (v := .int (-5)) rfl T.c_NOT_KNOWN ⟨_, rfl⟩) pa_nil)))) pss_nil)
      (pss_cons (ps_expr (pe_call (ok_take_off T) (hr.mono (by decide)) rfl T.g_take_off T.F_take_off.kp T.b_take_off .nil pass0 (pa_cons (pv 0) (pa_cons (pe_dget (hu_of hr) (pe_fld (pv 0) rfl) (pv 1) (fun _ _ => rfl)) pa_nil))))
      (pss_cons (ps_expr (pe_dpop1 (pe_fld (pv 0) rfl) (pv 1) ⟨rfl, rfl, rfl, rfl⟩))
      (pss_one (ps_ret (pe_lst (pa_cons (pe_glob (v := .int (0)) rfl T.c_DONE ⟨_, rfl⟩) pa_nil)))))), ?_⟩
    cases e : cal.spot id with
    | none =>
      have hv : valV kvs (Sum.inl id) = none := by rw [k3, M.get_none (G.toNone e)]; rfl
      have ek : Vbdead.step cal (.drop id) = (cal, [-5]) := by
        simp only [Vbdead.step, Vbdead.drop, e, Vbdead.done]
      rw [ek] at k
      refine ⟨_, rfl, _, rfl, c, D.c_Calendar, dc, _, _, rfl, hc, T.l_Calendar, T.n_Calendar_things, rfl, m.d, none, rfl, (by rw [← hv]; exact DGet.k (k := Sum.inl id) hd), _, rfl, iteT ?_⟩
      exact ⟨by decide, fun p hp => k.ret ⟨R, G⟩ Kept.refl p hp⟩
    | some s =>
      obtain ⟨a, hg⟩ := M.get_of_th (G.toSome e)
      obtain ⟨hs, hid⟩ := spot_some_mem e
      have hv : valV kvs (Sum.inl id) = some (.ref a) := by rw [k3, hg]; rfl
      have N := G.near e
      obtain ⟨⟨dx, ha⟩, _⟩ := R.thg id a _ hg
      have hok := G.snd.ok s hs
      refine ⟨_, rfl, _, rfl, c, D.c_Calendar, dc, _, _, rfl, hc, T.l_Calendar, T.n_Calendar_things, rfl, m.d, some (.ref a), rfl, (by rw [← hv]; exact DGet.k (k := Sum.inl id) hd), _, rfl, iteF ?_⟩
      refine ⟨_, rfl, _, rfl, c, D.c_Calendar, dc, _, _, rfl, hc, T.l_Calendar, T.n_Calendar_things, rfl, _, rfl, m.d, .ref a, rfl, (by rw [← hv]; exact DGet.k (k := Sum.inl id) hd), c, m, id, a, thOf s, rfl, R, hg, (by rw [chn_thOf]; exact sw_lt s), N.inRow, fun H1 R1 K1 => ?_⟩
      obtain ⟨dc1, hc1⟩ := R1.cal
      obtain ⟨kvs1, hd1, q1, q2, q3⟩ := R1.dic
      have hv1 : valV kvs1 (Sum.inl id) = some (.ref a) := by rw [q3]; show (m.get id).map _ = _; rw [hg]; rfl
      refine ⟨_, rfl, c, D.c_Calendar, dc1, _, _, rfl, hc1, T.l_Calendar, T.n_Calendar_things, rfl, m.d, rfl, .inl ⟨kvs1, .inl hd1⟩, _, rfl, kvs1, Sum.inl id, .ref a, hd1, rfl, hv1, ?_⟩
      have R2 := R1.popTh hd1 hg
      refine ⟨by decide, k.yes (st_drop_ok e) ⟨R2.1, ?_⟩ (K1.trans R2.2)⟩
      show Good _ m.clock (offRow m.row (thOf s)) (fun j => (at1 m.get id none j).map Prod.snd) (m.n - 1)
      rw [th_at1n]; exact G.dropped e

/-! ### rank -/
theorem withPrio (s : Vbdead.Spot) (p : Int) : ({ thOf s with pri := p } : Th) = thOf (withItem { s.item with prio := p } s) := by cases s <;> rfl
theorem withHeld (s : Vbdead.Spot) (n : Nat) : ({ thOf s with hol := (n : Int) } : Th) = thOf (withItem { s.item with held := n } s) := by cases s <;> rfl
theorem okItem.prio {x : Vbdead.Item} {p : Int} (h : okItem x) (hp : -1000 ≤ p ∧ p ≤ 1000) : okItem { x with prio := p } := ⟨h.1, h.2.1, hp.1, hp.2, h.2.2.2.2⟩
theorem okItem.held {x : Vbdead.Item} {n : Nat} (h : okItem x) (hn : n ≤ 1000) : okItem { x with held := n } := ⟨h.1, h.2.1, h.2.2.1, h.2.2.2.1, hn⟩
theorem ok_prio {k : Nat} {s : Vbdead.Spot} {p : Int} (h : okSpot k s) (hp : -1000 ≤ p ∧ p ≤ 1000) : okSpot k (withItem { s.item with prio := p } s) := by
  cases s with
  | current x => exact okItem.prio h hp
  | asleep x => exact okItem.prio h hp
  | future t x => exact ⟨okItem.prio h.1 hp, h.2⟩
  | frozen t x => exact ⟨okItem.prio h.1 hp, h.2⟩
def sp_rank (D : Ads) : Sp := sp_call2 D .rank
theorem ok_rank (T : Txt K mg D) : FnOk P w K mg base CX0 6 D.f_rank D.d_rank ["calendar", "number", "priority"] (sp_rank D) := by
  refine T.F_rank.ok sc_rank (fun vs H Q E h => ?_) (fun cdv A outer s H vs Q E hr h => ?_)
  · obtain ⟨c, m, cal, id, x, rfl, _⟩ := h
    rfl
  · obtain ⟨c, m, cal, id, x, rfl, ⟨R, G⟩, k⟩ := h
    obtain ⟨dc, hc⟩ := R.cal
    obtain ⟨kvs, hd, k1, k2, k3⟩ := R.dic
    refine ⟨_, pss_cons (ps_if (pt_cmp (pc_dnotin (hu_of hr) (pv 1) (pe_fld (pv 0) rfl))) (pss_one (ps_ret (pe_lst (pa_cons (pe_glob (v := .int (-5)) rfl T.c_NOT_KNOWN ⟨_, rfl⟩) pa_nil)))) pss_nil)
      (pss_cons (ps_set (i := 3) sc_rank.nd rfl (Or.inl rfl) (pe_dget (hu_of hr) (pe_fld (pv 0) rfl) (pv 1) (fun _ _ => rfl)))
      (pss_cons (ps_if (pt_not (pt_chain op_le op_le (pe_glob (v := .int (-1000)) rfl T.c_LEAST_PRIORITY ⟨_, rfl⟩) (pv 2) (pe_glob (v := .int (1000)) rfl T.c_GREATEST_PRIORITY ⟨_, rfl⟩))) (pss_one (ps_ret (pe_lst (pa_cons (pe_glob (v := .int (-2)) rfl T.c_BAD_PRIORITY ⟨_, rfl⟩) pa_nil)))) pss_nil)
      (pss_cons (ps_fld (pv 3) (pv 2) rfl)
      (pss_cons (ps_if (pt_cmpR op_eq (pe_fld (pv 3) rfl) (pe_glob (v := .int (0)) rfl T.c_CURRENT ⟨_, rfl⟩) (nomark _)) (pss_one (ps_expr (pe_call (ok_move_to_current T) (hr.mono (by decide)) rfl T.g_move_to_current T.F_move_to_current.kp T.b_move_to_current .nil pass0 (pa_cons (pv 0) (pa_cons (pv 3) pa_nil))))) pss_nil)
      (pss_one (ps_ret (pe_lst (pa_cons (pe_glob (v := .int (0)) rfl T.c_DONE ⟨_, rfl⟩) pa_nil)))))))), ?_⟩
    cases e : cal.spot id with
    | none =>
      have hv : valV kvs (Sum.inl id) = none := by rw [k3, M.get_none (G.toNone e)]; rfl
      have ek : Vbdead.step cal (.rank id x) = (cal, [-5]) := by
        simp only [Vbdead.step, Vbdead.rank, e, Vbdead.done]
      rw [ek] at k
      refine ⟨_, rfl, _, rfl, c, D.c_Calendar, dc, _, _, rfl, hc, T.l_Calendar, T.n_Calendar_things, rfl, m.d, none, rfl, (by rw [← hv]; exact DGet.k (k := Sum.inl id) hd), _, rfl, iteT ?_⟩
      exact ⟨by decide, fun p hp => k.ret ⟨R, G⟩ Kept.refl p hp⟩
    | some s =>
      obtain ⟨a, hg⟩ := M.get_of_th (G.toSome e)
      obtain ⟨hs, hid⟩ := spot_some_mem e
      have hv : valV kvs (Sum.inl id) = some (.ref a) := by rw [k3, hg]; rfl
      have N := G.near e
      obtain ⟨⟨dx, ha⟩, _⟩ := R.thg id a _ hg
      have hok := G.snd.ok s hs
      refine ⟨_, rfl, _, rfl, c, D.c_Calendar, dc, _, _, rfl, hc, T.l_Calendar, T.n_Calendar_things, rfl, m.d, some (.ref a), rfl, (by rw [← hv]; exact DGet.k (k := Sum.inl id) hd), _, rfl, iteF ?_⟩
      refine ⟨_, rfl, c, D.c_Calendar, dc, _, _, rfl, hc, T.l_Calendar, T.n_Calendar_things, rfl, _, rfl, m.d, .ref a, rfl, (by rw [← hv]; exact DGet.k (k := Sum.inl id) hd), ?_⟩
      have bad : ¬ (-1000 ≤ x ∧ x ≤ 1000) → ∀ p, H p = none → Q (.ref p) (upd H p (.lst [.int (-2)])) := fun hb => k.no ⟨R, G⟩ (st_rank_2 e hb)
      refine ⟨_, rfl, _, _, rfl, rfl, _, rfl, iteD (fun h1 => ⟨_, _, rfl, rfl, _, rfl, ?_⟩) (fun h1 => ⟨_, rfl, iteT ⟨by decide, bad fun h => h1 h.1⟩⟩)⟩
      by_cases h2 : x ≤ 1000
      case neg =>
        rw [decide_eq_false h2]
        exact iteT ⟨by decide, bad fun h => h2 h.2⟩
      rw [decide_eq_true h2]
      refine iteF ?_
      have hch := chn_thOf s
      subst hid
      refine ⟨_, rfl, _, rfl, a, D.c_Thing, dx, _, rfl, ha, T.l_Thing, T.n_Thing_priority, (by show 6 < 1000; decide), ?_⟩
      have R2 := R.setTh (dx := dx) (t' := { thOf s with pri := x }) hg rfl
      have N2 : Near cal s { thOf s with pri := x } m.clock m.row (fun j => (at1 m.get (sidI s) (some (a, { thOf s with pri := x })) j).map Prod.snd) m.n := by
        rw [th_at1]; exact N.set rfl rfl
      refine ⟨_, rfl, a, D.c_Thing, dx, _, _, rfl, upd_same, T.l_Thing, T.n_Thing_chain, rfl, rfl, _, rfl, iteI (fun e1 => ?_) (fun e1 => ?_)⟩
      · exact ⟨_, rfl, _, rfl, c, _, a, cal, s, _, { s.item with prio := x }, rfl, ⟨R2.1, at1_same, N2, rfl, okItem.prio hok.item ⟨h1, h2⟩, rfl, hol_thOf s⟩, fun H' m' A1 K1 => ⟨by decide, k.yes (st_rank_cur e ⟨h1, h2⟩ (by omega)) A1 (R2.2.trans K1)⟩⟩
      · refine ⟨by decide, k.yes (st_rank_not e ⟨h1, h2⟩ (by omega)) ⟨R2.1, ?_⟩ R2.2⟩
        refine N2.changed (x := { s.item with prio := x }) rfl (ok_prio hok ⟨h1, h2⟩) ?_ (withPrio s x)
        cases s with
        | current y => exact absurd rfl e1
        | future t y => rfl
        | frozen t y => rfl
        | asleep y => rfl

/-! ### hold, free -/
def sp_hold (D : Ads) : Sp := sp_call1 D .hold
theorem ok_hold (T : Txt K mg D) : FnOk P w K mg base CX0 6 D.f_hold D.d_hold ["calendar", "number"] (sp_hold D) := by
  refine T.F_hold.ok sc_hold (fun vs H Q E h => ?_) (fun cdv A outer s H vs Q E hr h => ?_)
  · obtain ⟨c, m, cal, id, rfl, _⟩ := h
    rfl
  · obtain ⟨c, m, cal, id, rfl, ⟨R, G⟩, k⟩ := h
    obtain ⟨dc, hc⟩ := R.cal
    obtain ⟨kvs, hd, k1, k2, k3⟩ := R.dic
    refine ⟨_, pss_cons (ps_if (pt_cmp (pc_dnotin (hu_of hr) (pv 1) (pe_fld (pv 0) rfl))) (pss_one (ps_ret (pe_lst (pa_cons (pe_glob (v := .int (-5)) rfl T.c_NOT_KNOWN ⟨_, rfl⟩) pa_nil)))) pss_nil)
      (pss_cons (ps_set (i := 2) sc_hold.nd rfl (Or.inl rfl) (pe_dget (hu_of hr) (pe_fld (pv 0) rfl) (pv 1) (fun _ _ => rfl)))
      (pss_cons (ps_if (pt_cmpR op_ge (pe_fld (pv 2) rfl) (pe_glob (v := .int (1000)) rfl T.c_MOST_HOLDS ⟨_, rfl⟩) (nomark _)) (pss_one (ps_ret (pe_lst (pa_cons (pe_glob (v := .int (-16)) rfl T.c_ALL_HOLDS ⟨_, rfl⟩) pa_nil)))) pss_nil)
      (pss_cons (ps_fldaug (pv 2) pe_int in_add)
      (pss_cons (ps_if (pt_cmpR op_eq (pe_fld (pv 2) rfl) (pe_glob (v := .int (1)) rfl T.c_FUTURE ⟨_, rfl⟩) (nomark _)) (pss_one (ps_expr (pe_call (ok_move_to_frozen T) (hr.mono (by decide)) rfl T.g_move_to_frozen T.F_move_to_frozen.kp T.b_move_to_frozen .nil pass0 (pa_cons (pv 0) (pa_cons (pv 2) (pa_cons (pe_call (ok_time_left T) (hr.mono (by decide)) rfl T.g_time_left T.F_time_left.kp T.b_time_left .nil pass0 (pa_cons (pv 0) (pa_cons (pv 2) pa_nil))) pa_nil)))))) pss_nil)
      (pss_one (ps_ret (pe_lst (pa_cons (pe_glob (v := .int (0)) rfl T.c_DONE ⟨_, rfl⟩) pa_nil)))))))), ?_⟩
    cases e : cal.spot id with
    | none =>
      have hv : valV kvs (Sum.inl id) = none := by rw [k3, M.get_none (G.toNone e)]; rfl
      have ek : Vbdead.step cal (.hold id) = (cal, [-5]) := by
        simp only [Vbdead.step, Vbdead.hold, e, Vbdead.done]
      rw [ek] at k
      refine ⟨_, rfl, _, rfl, c, D.c_Calendar, dc, _, _, rfl, hc, T.l_Calendar, T.n_Calendar_things, rfl, m.d, none, rfl, (by rw [← hv]; exact DGet.k (k := Sum.inl id) hd), _, rfl, iteT ?_⟩
      exact ⟨by decide, fun p hp => k.ret ⟨R, G⟩ Kept.refl p hp⟩
    | some s =>
      obtain ⟨a, hg⟩ := M.get_of_th (G.toSome e)
      obtain ⟨hs, hid⟩ := spot_some_mem e
      have hv : valV kvs (Sum.inl id) = some (.ref a) := by rw [k3, hg]; rfl
      have N := G.near e
      obtain ⟨⟨dx, ha⟩, _⟩ := R.thg id a _ hg
      have hok := G.snd.ok s hs
      refine ⟨_, rfl, _, rfl, c, D.c_Calendar, dc, _, _, rfl, hc, T.l_Calendar, T.n_Calendar_things, rfl, m.d, some (.ref a), rfl, (by rw [← hv]; exact DGet.k (k := Sum.inl id) hd), _, rfl, iteF ?_⟩
      refine ⟨_, rfl, c, D.c_Calendar, dc, _, _, rfl, hc, T.l_Calendar, T.n_Calendar_things, rfl, _, rfl, m.d, .ref a, rfl, (by rw [← hv]; exact DGet.k (k := Sum.inl id) hd), ?_⟩
      have hch := chn_thOf s
      have hho := hol_thOf s
      have hit := hok.item
      refine ⟨_, rfl, a, D.c_Thing, dx, _, _, rfl, ha, T.l_Thing, T.n_Thing_holds, rfl, _, _, rfl, rfl, _, rfl, iteD (fun e1 => ⟨by decide, k.no ⟨R, G⟩ (st_hold_16 e (by omega))⟩) (fun e1 => ?_)⟩
      subst hid
      refine ⟨_, rfl, a, D.c_Thing, dx, _, _, rfl, ha, T.l_Thing, T.n_Thing_holds, rfl, _, _, rfl, rfl, dx, _, ha, (by show 6 < 1000; decide), ?_⟩
      have hlt : s.item.held < 1000 := by omega
      have et : ({ thOf s with hol := (thOf s).hol + 1 } : Th) = thOf (withItem { s.item with held := s.item.held + 1 } s) := by rw [← withHeld, hho]; rfl
      have R2 := R.setTh (dx := dx) (t' := { thOf s with hol := (thOf s).hol + 1 }) hg rfl
      have N2 : Near cal s { thOf s with hol := (thOf s).hol + 1 } m.clock m.row (fun j => (at1 m.get (sidI s) (some (a, { thOf s with hol := (thOf s).hol + 1 })) j).map Prod.snd) m.n := by
        rw [th_at1]; exact N.set rfl rfl
      refine ⟨_, rfl, a, D.c_Thing, dx, _, _, rfl, upd_same, T.l_Thing, T.n_Thing_chain, rfl, rfl, _, rfl, iteI (fun e2 => ?_) (fun e2 => ?_)⟩
      · cases s with
        | current y => exact absurd e2 (by show ¬ ((0 : Nat) : Int) = 1; decide)
        | frozen t y => exact absurd e2 (by show ¬ ((2 : Nat) : Int) = 1; decide)
        | asleep y => exact absurd e2 (by show ¬ ((3 : Nat) : Int) = 1; decide)
        | future t y =>
          have hok : okSpot cal.clock (.future t y) := hok
          refine ⟨_, rfl, _, rfl, _, rfl, _, rfl, c, _, _, a, _, rfl, R2.1, at1_same, ?_⟩
          refine ⟨c, _, a, cal, .future t y, _, { y with held := y.held + 1 }, t - cal.clock, ?_, ⟨R2.1, at1_same, N2, rfl, okItem.held hit (by exact hlt), rfl, ?_⟩, by show 1 ≤ y.held + 1; omega, ?_, fun H' m' A1 K1 => ⟨by decide, k.yes (st_hold_fut e hlt) A1 (R2.2.trans K1)⟩⟩
          · have h1 : cal.clock ≤ t := hok.2.2.1
            have h2 : (t : Int) - m.clock = ((t - cal.clock : Nat) : Int) := by rw [G.clk]; omega
            show [L2.V.ref c, .ref a, .int ((t : Int) - m.clock)] = _
            rw [h2]
          · show (y.held : Int) + 1 = ((y.held + 1 : Nat) : Int)
            omega
          · have := hok.2.2.2; omega
      · refine ⟨by decide, k.yes (st_hold_not e hlt (by show sw s ≠ 1; intro q; rw [q] at hch; exact e2 (by show (((thOf s).chn : Nat) : Int) = 1; rw [hch]; rfl))) ⟨R2.1, ?_⟩ R2.2⟩
        refine N2.changed (x := { s.item with held := s.item.held + 1 }) rfl ?_ ?_ et
        · cases s with
          | current y => exact okItem.held hit hlt
          | asleep y => exact okItem.held hit hlt
          | future t y => exact absurd rfl e2
          | frozen t y =>
            have hok : okSpot cal.clock (.frozen t y) := hok
            exact ⟨okItem.held hit hlt, by show 1 ≤ y.held + 1; omega, hok.2.2⟩
        · cases s <;> rfl
def sp_free (D : Ads) : Sp := sp_call1 D .free
theorem ok_free (T : Txt K mg D) : FnOk P w K mg base CX0 6 D.f_free D.d_free ["calendar", "number"] (sp_free D) := by
  refine T.F_free.ok sc_free (fun vs H Q E h => ?_) (fun cdv A outer s H vs Q E hr h => ?_)
  · obtain ⟨c, m, cal, id, rfl, _⟩ := h
    rfl
  · obtain ⟨c, m, cal, id, rfl, ⟨R, G⟩, k⟩ := h
    obtain ⟨dc, hc⟩ := R.cal
    obtain ⟨kvs, hd, k1, k2, k3⟩ := R.dic
    refine ⟨_, pss_cons (ps_if (pt_cmp (pc_dnotin (hu_of hr) (pv 1) (pe_fld (pv 0) rfl))) (pss_one (ps_ret (pe_lst (pa_cons (pe_glob (v := .int (-5)) rfl T.c_NOT_KNOWN ⟨_, rfl⟩) pa_nil)))) pss_nil)
      (pss_cons (ps_set (i := 2) sc_free.nd rfl (Or.inl rfl) (pe_dget (hu_of hr) (pe_fld (pv 0) rfl) (pv 1) (fun _ _ => rfl)))
      (pss_cons (ps_if (pt_cmpR op_eq (pe_fld (pv 2) rfl) pe_int (nomark _)) (pss_one (ps_ret (pe_lst (pa_cons (pe_glob (v := .int (-10)) rfl T.c_NO_HOLDS ⟨_, rfl⟩) pa_nil)))) pss_nil)
      (pss_cons (ps_fldaug (pv 2) pe_int in_sub)
      (pss_cons (ps_if (PW.pt (pw_and (pt_cmpR op_eq (pe_fld (pv 2) rfl) (pe_glob (v := .int (2)) rfl T.c_FROZEN ⟨_, rfl⟩) (nomark _)) (pw_and1 (pt_cmpR op_eq (pe_fld (pv 2) rfl) pe_int (nomark _))))) (pss_one (ps_expr (pe_call (ok_move_to_future T) (hr.mono (by decide)) rfl T.g_move_to_future T.F_move_to_future.kp T.b_move_to_future .nil pass0 (pa_cons (pv 0) (pa_cons (pv 2) (pa_cons (pe_fld (pv 2) rfl) pa_nil)))))) pss_nil)
      (pss_one (ps_ret (pe_lst (pa_cons (pe_glob (v := .int (0)) rfl T.c_DONE ⟨_, rfl⟩) pa_nil)))))))), ?_⟩
    cases e : cal.spot id with
    | none =>
      have hv : valV kvs (Sum.inl id) = none := by rw [k3, M.get_none (G.toNone e)]; rfl
      have ek : Vbdead.step cal (.free id) = (cal, [-5]) := by
        simp only [Vbdead.step, Vbdead.free, e, Vbdead.done]
      rw [ek] at k
      refine ⟨_, rfl, _, rfl, c, D.c_Calendar, dc, _, _, rfl, hc, T.l_Calendar, T.n_Calendar_things, rfl, m.d, none, rfl, (by rw [← hv]; exact DGet.k (k := Sum.inl id) hd), _, rfl, iteT ?_⟩
      exact ⟨by decide, fun p hp => k.ret ⟨R, G⟩ Kept.refl p hp⟩
    | some s =>
      obtain ⟨a, hg⟩ := M.get_of_th (G.toSome e)
      obtain ⟨hs, hid⟩ := spot_some_mem e
      have hv : valV kvs (Sum.inl id) = some (.ref a) := by rw [k3, hg]; rfl
      have N := G.near e
      obtain ⟨⟨dx, ha⟩, _⟩ := R.thg id a _ hg
      have hok := G.snd.ok s hs
      refine ⟨_, rfl, _, rfl, c, D.c_Calendar, dc, _, _, rfl, hc, T.l_Calendar, T.n_Calendar_things, rfl, m.d, some (.ref a), rfl, (by rw [← hv]; exact DGet.k (k := Sum.inl id) hd), _, rfl, iteF ?_⟩
      refine ⟨_, rfl, c, D.c_Calendar, dc, _, _, rfl, hc, T.l_Calendar, T.n_Calendar_things, rfl, _, rfl, m.d, .ref a, rfl, (by rw [← hv]; exact DGet.k (k := Sum.inl id) hd), ?_⟩
      have hch := chn_thOf s
      have hho := hol_thOf s
      have hit := hok.item
      refine ⟨_, rfl, a, D.c_Thing, dx, _, _, rfl, ha, T.l_Thing, T.n_Thing_holds, rfl, rfl, _, rfl, iteI (fun e1 => ⟨by decide, k.no ⟨R, G⟩ (st_free_10 e (by omega))⟩) (fun e1 => ?_)⟩
      subst hid
      refine ⟨_, rfl, a, D.c_Thing, dx, _, _, rfl, ha, T.l_Thing, T.n_Thing_holds, rfl, _, _, rfl, rfl, dx, _, ha, (by show 6 < 1000; decide), ?_⟩
      have hne : s.item.held ≠ 0 := by omega
      have eh : (thOf s).hol - 1 = ((s.item.held - 1 : Nat) : Int) := by omega
      have et : ({ thOf s with hol := (thOf s).hol - 1 } : Th) = thOf (withItem { s.item with held := s.item.held - 1 } s) := by rw [← withHeld, eh]
      have R2 := R.setTh (dx := dx) (t' := { thOf s with hol := (thOf s).hol - 1 }) hg rfl
      have N2 : Near cal s { thOf s with hol := (thOf s).hol - 1 } m.clock m.row (fun j => (at1 m.get (sidI s) (some (a, { thOf s with hol := (thOf s).hol - 1 })) j).map Prod.snd) m.n := by
        rw [th_at1]; exact N.set rfl rfl
      have hle : s.item.held - 1 ≤ 1000 := by have := hit.2.2.2.2; omega
      have rest : ¬ (sw s = 2 ∧ s.item.held = 1) → ∀ p, (upd H a (.ins D.c_Thing dx (thF { thOf s with hol := (thOf s).hol - 1 }))) p = none → Q (.ref p) (upd (upd H a (.ins D.c_Thing dx (thF { thOf s with hol := (thOf s).hol - 1 }))) p (.lst [.int 0])) := fun hw => by
        refine k.yes (st_free_not e hne hw) ⟨R2.1, ?_⟩ R2.2
        refine N2.changed (x := { s.item with held := s.item.held - 1 }) rfl ?_ ?_ et
        · cases s with
          | current y => exact okItem.held hit hle
          | asleep y => exact okItem.held hit hle
          | future t y =>
            have hok : okSpot cal.clock (.future t y) := hok
            exact absurd hok.2.1 hne
          | frozen t y =>
            have hok : okSpot cal.clock (.frozen t y) := hok
            refine ⟨okItem.held hit hle, ?_, hok.2.2⟩
            have h1 : ¬ y.held = 1 := fun q => hw ⟨rfl, q⟩
            have h2 : 1 ≤ y.held := hok.2.1
            show 1 ≤ y.held - 1
            omega
        · cases s <;> rfl
      refine ⟨_, rfl, a, D.c_Thing, dx, _, _, rfl, upd_same, T.l_Thing, T.n_Thing_chain, rfl, rfl, _, rfl, iteI (fun e2 => ?_) (fun e2 => ?_)⟩
      · refine ⟨_, rfl, a, D.c_Thing, dx, _, _, rfl, upd_same, T.l_Thing, T.n_Thing_holds, rfl, rfl, _, rfl, iteI (fun e3 => ?_) (fun e3 => ?_)⟩
        · have e3 : (thOf s).hol - 1 = 0 := e3
          have h1 : s.item.held = 1 := by omega
          cases s with
          | current y => exact absurd e2 (by show ¬ ((0 : Nat) : Int) = 2; decide)
          | future t y => exact absurd e2 (by show ¬ ((1 : Nat) : Int) = 2; decide)
          | asleep y => exact absurd e2 (by show ¬ ((3 : Nat) : Int) = 2; decide)
          | frozen t y =>
            have hok : okSpot cal.clock (.frozen t y) := hok
            refine ⟨_, rfl, _, rfl, _, rfl, a, D.c_Thing, dx, _, _, rfl, upd_same, T.l_Thing, T.n_Thing_rest, rfl, ?_⟩
            refine ⟨c, _, a, cal, .frozen t y, _, { y with held := 0 }, t, rfl, ⟨R2.1, at1_same, N2, rfl, okItem.held hit (by omega), rfl, ?_⟩, rfl, hok.2.2, fun H' m' A1 K1 => ⟨by decide, k.yes (st_free_fro e h1) A1 (R2.2.trans K1)⟩⟩
            show (y.held : Int) - 1 = ((0 : Nat) : Int)
            exact e3
        · have e3 : (thOf s).hol - 1 ≠ 0 := e3
          exact ⟨by decide, rest (fun q => e3 (by omega))⟩
      · exact iteF ⟨by decide, rest (fun q => e2 (by show (((thOf s).chn : Nat) : Int) = 2; rw [hch, q.1]; rfl))⟩

/-! ### fetch, ahead -/
def sp_fetch (D : Ads) : Sp := sp_call1 D .fetch
theorem ok_fetch (T : Txt K mg D) : FnOk P w K mg base CX0 6 D.f_fetch D.d_fetch ["calendar", "number"] (sp_fetch D) := by
  refine T.F_fetch.ok sc_fetch (fun vs H Q E h => ?_) (fun cdv A outer s H vs Q E hr h => ?_)
  · obtain ⟨c, m, cal, id, rfl, _⟩ := h
    rfl
  · obtain ⟨c, m, cal, id, rfl, ⟨R, G⟩, k⟩ := h
    obtain ⟨dc, hc⟩ := R.cal
    obtain ⟨kvs, hd, k1, k2, k3⟩ := R.dic
    refine ⟨_, pss_cons (ps_if (pt_cmp (pc_dnotin (hu_of hr) (pv 1) (pe_fld (pv 0) rfl))) (pss_one (ps_ret (pe_lst (pa_cons (pe_glob (v := .int (-5)) rfl T.c_NOT_KNOWN ⟨_, rfl⟩) pa_nil)))) pss_nil)
      (pss_cons (ps_set (i := 2) sc_fetch.nd rfl (Or.inl rfl) (pe_dget (hu_of hr) (pe_fld (pv 0) rfl) (pv 1) (fun _ _ => rfl)))
      (pss_cons (ps_if (pt_cmpR op_eq (pe_fld (pv 2) rfl) (pe_glob (v := .int (3)) rfl T.c_ASLEEP ⟨_, rfl⟩) (nomark _)) (pss_one (ps_ret (pe_lst (pa_cons (pe_glob (v := .int (-7)) rfl T.c_WRONG_CHAIN ⟨_, rfl⟩) pa_nil)))) pss_nil)
      (pss_cons (ps_set (i := 3) sc_fetch.nd rfl (Or.inl rfl) (pe_call (ok_time_left T) (hr.mono (by decide)) rfl T.g_time_left T.F_time_left.kp T.b_time_left .nil pass0 (pa_cons (pv 0) (pa_cons (pv 2) pa_nil))))
      (pss_cons (ps_if (pt_cmpR op_ne (pe_fld (pv 2) rfl) (pe_glob (v := .int (0)) rfl T.c_CURRENT ⟨_, rfl⟩) (nomark _)) (pss_one (ps_expr (pe_call (ok_move_to_current T) (hr.mono (by decide)) rfl T.g_move_to_current T.F_move_to_current.kp T.b_move_to_current .nil pass0 (pa_cons (pv 0) (pa_cons (pv 2) pa_nil))))) pss_nil)
      (pss_one (ps_ret (pe_lst (pa_cons (pe_glob (v := .int (0)) rfl T.c_DONE ⟨_, rfl⟩) (pa_cons (pv 3) pa_nil))))))))), ?_⟩
    cases e : cal.spot id with
    | none =>
      have hv : valV kvs (Sum.inl id) = none := by rw [k3, M.get_none (G.toNone e)]; rfl
      have ek : Vbdead.step cal (.fetch id) = (cal, [-5]) := by
        simp only [Vbdead.step, Vbdead.fetch, e, Vbdead.done]
      rw [ek] at k
      refine ⟨_, rfl, _, rfl, c, D.c_Calendar, dc, _, _, rfl, hc, T.l_Calendar, T.n_Calendar_things, rfl, m.d, none, rfl, (by rw [← hv]; exact DGet.k (k := Sum.inl id) hd), _, rfl, iteT ?_⟩
      exact ⟨by decide, fun p hp => k.ret ⟨R, G⟩ Kept.refl p hp⟩
    | some s =>
      obtain ⟨a, hg⟩ := M.get_of_th (G.toSome e)
      obtain ⟨hs, hid⟩ := spot_some_mem e
      have hv : valV kvs (Sum.inl id) = some (.ref a) := by rw [k3, hg]; rfl
      have N := G.near e
      obtain ⟨⟨dx, ha⟩, _⟩ := R.thg id a _ hg
      have hok := G.snd.ok s hs
      refine ⟨_, rfl, _, rfl, c, D.c_Calendar, dc, _, _, rfl, hc, T.l_Calendar, T.n_Calendar_things, rfl, m.d, some (.ref a), rfl, (by rw [← hv]; exact DGet.k (k := Sum.inl id) hd), _, rfl, iteF ?_⟩
      refine ⟨_, rfl, c, D.c_Calendar, dc, _, _, rfl, hc, T.l_Calendar, T.n_Calendar_things, rfl, _, rfl, m.d, .ref a, rfl, (by rw [← hv]; exact DGet.k (k := Sum.inl id) hd), ?_⟩
      have hch := chn_thOf s
      have hl := left_rest (s := s) G.clk hok
      refine ⟨_, rfl, a, D.c_Thing, dx, _, _, rfl, ha, T.l_Thing, T.n_Thing_chain, rfl, rfl, _, rfl, iteI (fun e1 => ⟨by decide, k.no ⟨R, G⟩ (st_fetch_7 e (by omega))⟩) (fun e1 => ?_)⟩
      subst hid
      refine ⟨_, rfl, _, rfl, c, m, sidI s, a, thOf s, rfl, R, hg, ?_⟩
      rw [hl]
      refine ⟨_, rfl, a, D.c_Thing, dx, _, _, rfl, ha, T.l_Thing, T.n_Thing_chain, rfl, rfl, _, rfl, iteN (fun e2 => ?_) (fun e2 => ?_)⟩
      · exact ⟨_, rfl, _, rfl, c, m, a, cal, s, thOf s, s.item, rfl, Good.movable R G e hg, fun H' m' A1 K1 => ⟨_, rfl, (by show 2 ≤ sizeLine; decide), k.yes (st_fetch_ok e (by omega) (by omega)) A1 K1⟩⟩
      · exact ⟨_, rfl, (by show 2 ≤ sizeLine; decide), k.yes (st_fetch_cur e (by omega)) ⟨R, G⟩ Kept.refl⟩
def sp_ahead (D : Ads) : Sp := sp_call1 D .ahead
theorem ok_ahead (T : Txt K mg D) : FnOk P w K mg base CX0 4 D.f_ahead D.d_ahead ["calendar", "number"] (sp_ahead D) := by
  refine T.F_ahead.ok sc_ahead (fun vs H Q E h => ?_) (fun cdv A outer s H vs Q E hr h => ?_)
  · obtain ⟨c, m, cal, id, rfl, _⟩ := h
    rfl
  · obtain ⟨c, m, cal, id, rfl, ⟨R, G⟩, k⟩ := h
    obtain ⟨dc, hc⟩ := R.cal
    obtain ⟨kvs, hd, k1, k2, k3⟩ := R.dic
    refine ⟨_, pss_cons (ps_if (pt_cmp (pc_dnotin (hu_of hr) (pv 1) (pe_fld (pv 0) rfl))) (pss_one (ps_ret (pe_lst (pa_cons (pe_glob (v := .int (-5)) rfl T.c_NOT_KNOWN ⟨_, rfl⟩) pa_nil)))) pss_nil)
      (pss_cons (ps_set (i := 2) sc_ahead.nd rfl (Or.inl rfl) (pe_dget (hu_of hr) (pe_fld (pv 0) rfl) (pv 1) (fun _ _ => rfl)))
      (pss_cons (ps_if (PW.pt (pw_or (pt_cmpR op_eq (pe_fld (pv 2) rfl) (pe_glob (v := .int (2)) rfl T.c_FROZEN ⟨_, rfl⟩) (nomark _)) (pw_or1 (pt_cmpR op_eq (pe_fld (pv 2) rfl) (pe_glob (v := .int (3)) rfl T.c_ASLEEP ⟨_, rfl⟩) (nomark _))))) (pss_one (ps_ret (pe_lst (pa_cons (pe_glob (v := .int (-7)) rfl T.c_WRONG_CHAIN ⟨_, rfl⟩) pa_nil)))) pss_nil)
      (pss_cons (ps_expr (pe_call (ok_take_off T) (hr.mono (by decide)) rfl T.g_take_off T.F_take_off.kp T.b_take_off .nil pass0 (pa_cons (pv 0) (pa_cons (pv 2) pa_nil))))
      (pss_cons (ps_expr (pe_call (ok_put_in_front T) (hr.mono (by decide)) rfl T.g_put_in_front T.F_put_in_front.kp T.b_put_in_front .nil pass0 (pa_cons (pv 0) (pa_cons (pv 2) pa_nil))))
      (pss_one (ps_ret (pe_lst (pa_cons (pe_glob (v := .int (0)) rfl T.c_DONE ⟨_, rfl⟩) pa_nil)))))))), ?_⟩
    cases e : cal.spot id with
    | none =>
      have hv : valV kvs (Sum.inl id) = none := by rw [k3, M.get_none (G.toNone e)]; rfl
      have ek : Vbdead.step cal (.ahead id) = (cal, [-5]) := by
        simp only [Vbdead.step, Vbdead.ahead, e, Vbdead.done]
      rw [ek] at k
      refine ⟨_, rfl, _, rfl, c, D.c_Calendar, dc, _, _, rfl, hc, T.l_Calendar, T.n_Calendar_things, rfl, m.d, none, rfl, (by rw [← hv]; exact DGet.k (k := Sum.inl id) hd), _, rfl, iteT ?_⟩
      exact ⟨by decide, fun p hp => k.ret ⟨R, G⟩ Kept.refl p hp⟩
    | some s =>
      obtain ⟨a, hg⟩ := M.get_of_th (G.toSome e)
      obtain ⟨hs, hid⟩ := spot_some_mem e
      have hv : valV kvs (Sum.inl id) = some (.ref a) := by rw [k3, hg]; rfl
      have N := G.near e
      obtain ⟨⟨dx, ha⟩, _⟩ := R.thg id a _ hg
      have hok := G.snd.ok s hs
      refine ⟨_, rfl, _, rfl, c, D.c_Calendar, dc, _, _, rfl, hc, T.l_Calendar, T.n_Calendar_things, rfl, m.d, some (.ref a), rfl, (by rw [← hv]; exact DGet.k (k := Sum.inl id) hd), _, rfl, iteF ?_⟩
      refine ⟨_, rfl, c, D.c_Calendar, dc, _, _, rfl, hc, T.l_Calendar, T.n_Calendar_things, rfl, _, rfl, m.d, .ref a, rfl, (by rw [← hv]; exact DGet.k (k := Sum.inl id) hd), ?_⟩
      have hch := chn_thOf s
      have hlt := sw_lt s
      have h7 : 2 ≤ sw s → ∀ p, H p = none → Q (.ref p) (upd H p (.lst [.int (-7)])) := fun hw => k.no ⟨R, G⟩ (st_ahead_7 e hw)
      refine ⟨_, rfl, a, D.c_Thing, dx, _, _, rfl, ha, T.l_Thing, T.n_Thing_chain, rfl, rfl, _, rfl, iteI (fun e1 => iteT ⟨by decide, h7 (by omega)⟩) (fun e1 => ?_)⟩
      refine ⟨_, rfl, a, D.c_Thing, dx, _, _, rfl, ha, T.l_Thing, T.n_Thing_chain, rfl, rfl, _, rfl, iteI (fun e2 => ⟨by decide, h7 (by omega)⟩) (fun e2 => ?_)⟩
      have hw : sw s < 2 := by omega
      subst hid
      have ek : Vbdead.step cal (.ahead (sidI s)) = (headPut (cal.without (sid s)) s, [0]) := by
        show Vbdead.done cal (Vbdead.ahead cal (sidI s)) = _
        rw [ahead_eq G e hw]; rfl
      refine ⟨_, rfl, _, rfl, c, m, sidI s, a, thOf s, rfl, R, hg, (by rw [chn_thOf]; exact sw_lt s), N.inRow, fun H1 R1 K1 => ?_⟩
      refine ⟨_, rfl, _, rfl, c, _, sidI s, a, thOf s, rfl, R1, hg, Ready.fit N.ready (by rw [chn_thOf]; exact sw_lt s), fun H2 R2 K2 => ?_⟩
      exact ⟨by decide, k.yes ek ⟨R2, G.aheadOf e hw⟩ (K1.trans K2)⟩
end
end WP
end
section
set_option Elab.async false
set_option linter.all false
set_option maxRecDepth 100000
namespace WP
open PySem PySem.Spec PyProof.Rows L2 WM
section
variable {P : Program} {w : World} {K : PySem.W.Frag} {mg : Str → Option Value} {base : Heap} {D : Ads}
theorem size2 {b : Int} {n : Nat} (hb : b = 2 * (n : Int)) : Builtin.Range.rangeSize 0 b 2 = (n : Int) := by
  unfold Builtin.Range.rangeSize
  rw [if_pos (by decide)]
  by_cases e : n = 0
  · rw [if_neg (by omega)]; omega
  · rw [if_pos (by omega)]; omega
theorem small2 {b : Int} {n : Nat} (hb : b = 2 * (n : Int)) (h : b < 2 ^ 62) : Builtin.Range.small 0 b 2 = true := by
  unfold Builtin.Range.small
  rw [size2 hb]
  simp only [Builtin.Range.rangeFitsLong, Bool.and_eq_true, Bool.or_eq_true, decide_eq_true_eq, beq_iff_eq, show (2 : Int) > 0 by decide, if_true]
  omega
theorem rng2 {b : Int} {n : Nat} (hb : b = 2 * (n : Int)) (h : b ≤ 16000) : RgC 0 b 2 n := ⟨by decide, by decide, small2 hb (by omega), size2 hb⟩

/-! ### join_refusal -/
def sp_join_refusal (D : Ads) : Sp := fun vs H Q _ => ∃ d kvs, ∃ id p : Int, vs = [.ref d, .int id, .int p] ∧ H d = some (.dK kvs) ∧ Q (.int (joinRef (valV kvs (Sum.inl id)).isSome kvs.length id p)) H
theorem ok_join_refusal (T : Txt K mg D) : FnOk P w K mg base CX0 1 D.f_join_refusal D.d_join_refusal ["known", "number", "priority"] (sp_join_refusal D) := by
  refine T.F_join_refusal.ok sc_join_refusal (fun vs H Q E h => ?_) (fun cdv A outer s H vs Q E hr h => ?_)
  · obtain ⟨d, kvs, id, p, rfl, _⟩ := h
    rfl
  · obtain ⟨d, kvs, id, p, rfl, hd, k⟩ := h
    refine ⟨_, pss_cons (ps_if (pt_not (pt_chain op_le op_le (pe_glob (v := .int (1)) rfl T.c_LEAST_ID ⟨_, rfl⟩) (pv 1) (pe_glob (v := .int (1000000000)) rfl T.c_GREATEST_ID ⟨_, rfl⟩))) (pss_one (ps_ret (pe_glob (v := .int (-1)) rfl T.c_BAD_ID ⟨_, rfl⟩))) pss_nil)
      (pss_cons (ps_if (pt_not (pt_chain op_le op_le (pe_glob (v := .int (-1000)) rfl T.c_LEAST_PRIORITY ⟨_, rfl⟩) (pv 2) (pe_glob (v := .int (1000)) rfl T.c_GREATEST_PRIORITY ⟨_, rfl⟩))) (pss_one (ps_ret (pe_glob (v := .int (-2)) rfl T.c_BAD_PRIORITY ⟨_, rfl⟩))) pss_nil)
      (pss_cons (ps_if (pt_cmp (pc_din (hu_of hr) (pv 1) (pv 0))) (pss_one (ps_ret (pe_glob (v := .int (-3)) rfl T.c_ID_IS_KNOWN ⟨_, rfl⟩))) pss_nil)
      (pss_cons (ps_if (pt_cmpR op_ge (pe_callB call_lenD rfl T.n_len PySem.boot_len (pa_cons (pv 0) pa_nil)) (pe_glob (v := .int (2000)) rfl T.c_MOST_KNOWN ⟨_, rfl⟩) (nomark _)) (pss_one (ps_ret (pe_glob (v := .int (-4)) rfl T.c_ALL_ARE_KNOWN ⟨_, rfl⟩))) pss_nil)
      (pss_one (ps_ret (pe_glob (v := .int (0)) rfl T.c_DONE ⟨_, rfl⟩)))))), ?_⟩
    unfold joinRef at k
    have b1 : ¬ (1 ≤ id ∧ id ≤ 1000000000) → Q (.int (-1)) H := fun hb => by rw [if_pos hb] at k; exact k
    refine ⟨_, rfl, _, _, rfl, rfl, _, rfl, iteD (fun h1 => ⟨_, _, rfl, rfl, _, rfl, ?_⟩) (fun h1 => ⟨_, rfl, iteT (b1 fun h => h1 h.1)⟩)⟩
    by_cases h2 : id ≤ 1000000000
    case neg =>
      rw [decide_eq_false h2]
      exact iteT (b1 fun h => h2 h.2)
    rw [decide_eq_true h2]
    refine iteF ?_
    rw [if_neg (fun q => q ⟨h1, h2⟩)] at k
    have b2 : ¬ (-1000 ≤ p ∧ p ≤ 1000) → Q (.int (-2)) H := fun hb => by rw [if_pos hb] at k; exact k
    refine ⟨_, rfl, _, _, rfl, rfl, _, rfl, iteD (fun h3 => ⟨_, _, rfl, rfl, _, rfl, ?_⟩) (fun h3 => ⟨_, rfl, iteT (b2 fun h => h3 h.1)⟩)⟩
    by_cases h4 : p ≤ 1000
    case neg =>
      rw [decide_eq_false h4]
      exact iteT (b2 fun h => h4 h.2)
    rw [decide_eq_true h4]
    refine iteF ?_
    rw [if_neg (fun q => q ⟨h3, h4⟩)] at k
    refine ⟨_, rfl, _, rfl, d, _, rfl, DGet.k (k := Sum.inl id) hd, _, rfl, ite2 (fun h5 => ?_) (fun h5 => ?_)⟩
    · rw [if_pos h5] at k; exact k
    · rw [if_neg h5] at k
      refine ⟨_, rfl, d, kvs, rfl, hd, _, _, rfl, rfl, _, rfl, iteD (fun h6 => ?_) (fun h6 => ?_)⟩
      · rw [if_pos (by omega)] at k; exact k
      · rw [if_neg (by omega)] at k; exact k

/-! ### joinall_refusal -/
/-- a dict's keys are the things that the specification knows -/
structure Keys (kvs : List (Key × V)) (cal : Vbdead.Cal) : Prop where
  has : ∀ i : Int, (valV kvs (Sum.inl i)).isSome = (cal.spot i).isSome
  len : kvs.length = cal.size
  snd : Snd cal
theorem Keys.joined {kvs : List (Key × V)} {cal : Vbdead.Cal} {id p : Int} {v : V} (h : Keys kvs cal) (hj : joinRef (cal.spot id).isSome cal.size id p = 0) : Keys (putK kvs (Sum.inl id) v) (cal.onCurrent ⟨id.toNat, p, 0⟩) := by
  obtain ⟨h1, h2, h3, h4⟩ := joinRef_zero hj
  have hn : cal.spot id = none := by
    cases e : cal.spot id with
    | none => rfl
    | some s => rw [e] at h3; cases h3
  have hid : sidI (.current ⟨id.toNat, p, 0⟩) = id := by show ((id.toNat : Nat) : Int) = id; omega
  have new : ∀ y ∈ spAll cal, sid y ≠ sid (.current ⟨id.toNat, p, 0⟩) := fun y hy q => by
    refine spot_none.mp hn y hy ?_
    rw [← hid]; show (sid y : Int) = _; rw [q]
  have hv : valV kvs (Sum.inl id) = none := by
    have := h.has id
    rw [hn] at this
    cases e : valV kvs (Sum.inl id) with
    | none => rfl
    | some x => rw [e] at this; cases this
  have hput : cal.onCurrent ⟨id.toNat, p, 0⟩ = put cal (.current ⟨id.toNat, p, 0⟩) := rfl
  refine ⟨fun i => ?_, ?_, ?_⟩
  · rw [valV_put, hput, spot_put new h.snd.nd, hid]
    by_cases q : i = id
    · rw [if_pos q, if_pos (congrArg Sum.inl q)]; rfl
    · rw [if_neg q, if_neg (fun z => q (Sum.inl.inj z))]; exact h.has i
  · rw [putK_new _ hv, List.length_append, h.len, hput, size_eq, size_eq, (perm_all_put fun y hy => new y (mem_all_of hy)).length_eq]; rfl
  · rw [hput]
    refine h.snd.put new ⟨?_, ?_, h2.1, h2.2, by show 0 ≤ 1000; omega⟩ (by rw [← size_eq]; exact h4)
    · show 1 ≤ id.toNat; omega
    · show id.toNat ≤ 1000000000; omega
theorem joinAll_step {cal : Vbdead.Cal} {id p : Int} {r : List Int} : Vbdead.joinAll cal (id :: p :: r) = if joinRef (cal.spot id).isSome cal.size id p = 0 then Vbdead.joinAll (cal.onCurrent ⟨id.toNat, p, 0⟩) r else .error (joinRef (cal.spot id).isSome cal.size id p) := by
  rw [Vbdead.joinAll, join_ref]
  by_cases h : joinRef (cal.spot id).isSome cal.size id p = 0
  · rw [if_pos h, if_pos h]
  · rw [if_neg h, if_neg h]
def refOf (x : Except Int Vbdead.Cal) : Int := match x with
  | .ok _ => 0
  | .error e => e
theorem drop_two {l : List Int} {i n : Nat} (hl : l.length = 2 * n) (hi : i < n) : ∃ a b, l[2 * i]? = some a ∧ l[2 * i + 1]? = some b ∧ l.drop (2 * i) = a :: b :: l.drop (2 * (i + 1)) := by
  have h1 : 2 * i < l.length := by omega
  have h2 : 2 * i + 1 < l.length := by omega
  refine ⟨l[2 * i], l[2 * i + 1], List.getElem?_eq_getElem h1, List.getElem?_eq_getElem h2, ?_⟩
  rw [List.drop_eq_getElem_cons h1, List.drop_eq_getElem_cons h2]; rfl
def sp_joinall_refusal (D : Ads) : Sp := fun vs H Q _ => ∃ d q kvs cal, ∃ (row : List Int) (n : Nat), vs = [.ref d, .ref q] ∧ H d = some (.dK kvs) ∧ Keys kvs cal ∧ H q = some (.lst (row.map V.int)) ∧ row.length = 2 * n ∧ row.length ≤ 16000 ∧
  ∀ H', Same H H' → Q (.int (refOf (Vbdead.joinAll cal row))) H'
theorem ok_joinall_refusal (T : Txt K mg D) : FnOk P w K mg base CX0 2 D.f_joinall_refusal D.d_joinall_refusal ["known", "pairs"] (sp_joinall_refusal D) := by
  refine T.F_joinall_refusal.ok sc_joinall_refusal (fun vs H Q E h => ?_) (fun cdv A outer s H vs Q E hr h => ?_)
  · obtain ⟨d, q, kvs, cal, row, n, rfl, _⟩ := h
    rfl
  · obtain ⟨d, q, kvs, cal, row, n, rfl, hd, hk, hq, hn, hl, k⟩ := h
    refine ⟨_, pss_cons (ps_set (i := 2) sc_joinall_refusal.nd rfl (Or.inl rfl) (pe_callTy call_dictC rfl T.n_dict boot_dict (pa_cons (pv 0) pa_nil)))
      (pss_cons (ps_for PassesOwn.never rfl (pi_range3 rfl T.n_range (pa_cons pe_int (pa_cons (pe_callB call_len_seq rfl T.n_len PySem.boot_len (pa_cons (pv 1) pa_nil)) (pa_cons pe_int pa_nil)))) (pg_name (i := 3) sc_joinall_refusal.nd rfl (Or.inl rfl)) (pss_cons (ps_set (i := 4) sc_joinall_refusal.nd rfl (Or.inl rfl) (pe_call (ok_join_refusal T) (hr.mono (by decide)) rfl T.g_join_refusal T.F_join_refusal.kp T.b_join_refusal .nil pass0 (pa_cons (pv 2) (pa_cons (pe_ix ix_list (pv 1) (pv 3) (fun _ _ => rfl)) (pa_cons (pe_ix ix_list (pv 1) (pe_op op_add (pv 3) pe_int) (fun _ _ => rfl)) pa_nil)))))
      (pss_cons (ps_if (pt_cmpR op_ne (pv 4) (pe_glob (v := .int (0)) rfl T.c_DONE ⟨_, rfl⟩) (nomark _)) (pss_one (ps_ret (pv 4))) pss_nil)
      (pss_one (ps_dput (hu_of hr) (pv 2) (pe_ix ix_list (pv 1) (pv 3) (fun _ _ => rfl)) pe_bl rfl)))))
      (pss_one (ps_ret (pe_glob (v := .int (0)) rfl T.c_DONE ⟨_, rfl⟩)))), ?_⟩
    refine ⟨_, rfl, d, kvs, rfl, hd, fun p hp => ?_⟩
    have s1 : Same H (upd H p (.dK kvs)) := fun b o e => by rw [upd_ne (ne_of_none e hp)]; exact e
    refine ⟨_, rfl, q, _, rfl, .inl (SqL.of (s1 _ _ hq)), 0, _, 2, n, rfl, rng2 (by rw [List.length_map, hn]; omega) (by rw [List.length_map]; omega), ?_⟩
    refine for_rangeC (fun i σ H' => ∃ kv v3 v4 ci, σ = [some (.ref d), some (.ref q), some (.ref p), v3, v4] ∧ Same H H' ∧ H' p = some (.dK kv) ∧ Keys kv ci ∧ Vbdead.joinAll cal row = Vbdead.joinAll ci (row.drop (2 * i)))
      ⟨kvs, none, none, cal, rfl, s1, upd_same, hk, rfl⟩ ?_ ?_
    · rintro i σ H' hi ⟨kv, v3, v4, ci, rfl, s2, hp2, hk2, ej⟩
      obtain ⟨id, pr, ha, hb, hdr⟩ := drop_two hn hi
      rw [hdr, joinAll_step] at ej
      have ei : (0 : Int) + (i : Nat) * 2 = ((2 * i : Nat) : Int) := by omega
      have ei1 : (0 : Int) + (i : Nat) * 2 + 1 = ((2 * i + 1 : Nat) : Int) := by omega
      refine ⟨_, rfl, _, rfl, _, rfl, q, _, _, _, rfl, rfl, SqL.of (s2 _ _ hq), (at_of (v := .int id) ei (by rw [List.getElem?_map, ha]; rfl)), ?_⟩
      refine ⟨_, rfl, _, rfl, _, _, rfl, rfl, q, _, _, _, rfl, rfl, SqL.of (s2 _ _ hq), (at_of (v := .int pr) ei1 (by rw [List.getElem?_map, hb]; rfl)), ?_⟩
      refine ⟨p, kv, id, pr, rfl, hp2, ?_⟩
      rw [hk2.has, hk2.len]
      refine ⟨_, rfl, rfl, _, rfl, iteN (fun e1 => ?_) (fun e1 => ?_)⟩
      · refine ⟨_, rfl, ?_⟩
        have := k H' s2
        rw [ej, if_neg e1] at this
        exact this
      · rw [if_pos e1] at ej
        refine ⟨_, rfl, _, rfl, _, rfl, q, _, _, _, rfl, rfl, SqL.of (s2 _ _ hq), (at_of (v := .int id) ei (by rw [List.getElem?_map, ha]; rfl)), p, _, rfl, DPut.k (k := Sum.inl id) hp2 ?_, ?_⟩
        · have := (joinRef_zero e1).2.2.2
          rw [hk2.len]; exact Nat.lt_of_lt_of_le this (by decide)
        · exact ⟨_, _, _, _, rfl, fun b o e => by rw [upd_ne (ne_of_none e hp)]; exact s2 b o e, upd_same, hk2.joined e1, ej⟩
    · rintro σ H' ⟨kv, v3, v4, ci, rfl, s2, hp2, hk2, ej⟩
      have := k H' s2
      rw [ej, List.drop_of_length_le (by omega)] at this
      exact this

/-! ### add_thing, join, joinall -/
def sp_add_thing (D : Ads) : Sp := fun vs H Q _ => ∃ c m cal, ∃ id p : Int, vs = [.ref c, .int id, .int p] ∧ CalAt D H c m cal ∧ joinRef (cal.spot id).isSome cal.size id p = 0 ∧
  ∀ H' m', CalAt D H' c m' (cal.onCurrent ⟨id.toNat, p, 0⟩) → Kept c m H m' H' → Q .non H'
theorem ok_add_thing (T : Txt K mg D) : FnOk P w K mg base CX0 4 D.f_add_thing D.d_add_thing ["calendar", "number", "priority"] (sp_add_thing D) := by
  refine T.F_add_thing.ok sc_add_thing (fun vs H Q E h => ?_) (fun cdv A outer s H vs Q E hr h => ?_)
  · obtain ⟨c, m, cal, id, p, rfl, _⟩ := h
    rfl
  · obtain ⟨c, m, cal, id, p, rfl, ⟨R, G⟩, hj, k⟩ := h
    obtain ⟨h1, h2, h3, h4⟩ := joinRef_zero hj
    have hn : cal.spot id = none := by
      cases e : cal.spot id with
      | none => rfl
      | some s => rw [e] at h3; cases h3
    have hid : sidI (.current ⟨id.toNat, p, 0⟩) = id := by show ((id.toNat : Nat) : Int) = id; omega
    have hgn : m.get id = none := M.get_none (G.toNone hn)
    have ht : (⟨id, p, 0, 0, 0, 0⟩ : Th) = thOf (.current ⟨id.toNat, p, 0⟩) := by
      show _ = (⟨((id.toNat : Nat) : Int), p, ((0 : Nat) : Int), 0, 0, 0⟩ : Th)
      rw [show ((id.toNat : Nat) : Int) = id by omega]; rfl
    refine ⟨_, pss_cons (ps_set (i := 3) sc_add_thing.nd rfl (Or.inl rfl) (pe_make T.m_Thing (ok_Thing_init T) (hr.mono (by decide)) rfl T.g_Thing T.b_Thing_init .nil pass0 (pa_cons (pv 1) (pa_cons (pv 2) pa_nil))))
      (pss_cons (ps_dput (hu_of hr) (pe_fld (pv 0) rfl) (pv 1) (pv 3) rfl)
      (pss_one (ps_expr (pe_call (ok_put_behind T) (hr.mono (by decide)) rfl T.g_put_behind T.F_put_behind.kp T.b_put_behind .nil pass0 (pa_cons (pv 0) (pa_cons (pv 3) pa_nil)))))), ?_⟩
    refine ⟨_, rfl, _, rfl, fun x dx nx nd ne => ⟨x, dx, id, p, rfl, upd_same, rfl, ?_⟩⟩
    rw [upd_upd]
    have s1 : Same H (upd (upd H dx (.own x)) x (.ins D.c_Thing dx (thF ⟨id, p, 0, 0, 0, 0⟩))) := fun b o e => by
      rw [upd_ne (ne_of_none e nx), upd_ne (ne_of_none e nd)]; exact e
    generalize hH1 : upd (upd H dx (.own x)) x (.ins D.c_Thing dx (thF ⟨id, p, 0, 0, 0, 0⟩)) = H1 at s1
    have hx : H1 x = some (.ins D.c_Thing dx (thF ⟨id, p, 0, 0, 0, 0⟩)) := by rw [← hH1]; exact upd_same
    have R1 := R.same s1
    obtain ⟨dc, hc⟩ := R1.cal
    obtain ⟨kvs, hd, k1, k2, k3⟩ := R1.dic
    refine ⟨_, rfl, _, rfl, c, D.c_Calendar, dc, _, _, rfl, hc, T.l_Calendar, T.n_Calendar_things, rfl, _, rfl, m.d, _, rfl, DPut.k (k := Sum.inl id) hd ?_, ?_⟩
    · have hs : (spAll cal).length < 2000 := by rw [← size_eq]; exact h4
      have := G.n
      exact Nat.lt_of_lt_of_le (show kvs.length < 2000 by omega) (by decide)
    have R2 := R1.addTh (t := ⟨id, p, 0, 0, 0, 0⟩) hd hgn ⟨dx, hx⟩ rfl (R.fresh nx)
    have K2 : Kept c m H { m with get := at1 m.get id (some (x, ⟨id, p, 0, 0, 0, 0⟩)), n := m.n + 1 } (upd H1 m.d (.dK (putK kvs (Sum.inl id) (.ref x)))) := Kept.addTh (fun b o e n => ⟨s1 b o e, n⟩) nx hgn
    have GA := G.added (s := .current ⟨id.toNat, p, 0⟩) (by rw [hid]; exact hn) ⟨by show 1 ≤ id.toNat; omega, by show id.toNat ≤ 1000000000; omega, h2.1, h2.2, by show 0 ≤ 1000; omega⟩ (by rw [G.n, ← size_eq]; exact h4)
    rw [hid, ← ht] at GA
    refine ⟨_, rfl, _, rfl, c, _, id, x, ⟨id, p, 0, 0, 0, 0⟩, rfl, R2, at1_same, ?_, fun H3 R3 K3 => ?_⟩
    · refine Ready.fit (d := cal) (id := id) ?_ (by show 0 < 4; decide)
      show Ready cal id m.row (fun j => (at1 m.get id (some (x, ⟨id, p, 0, 0, 0, 0⟩)) j).map Prod.snd)
      rw [th_at1]; exact (G.ready hn).set _
    · refine k H3 _ ⟨R3, ?_⟩ (K2.trans K3)
      show Good _ m.clock (putRow (fun j => (at1 m.get id (some (x, (⟨id, p, 0, 0, 0, 0⟩ : Th))) j).map Prod.snd) m.row ⟨id, p, 0, 0, 0, 0⟩ false) (fun j => (at1 m.get id (some (x, (⟨id, p, 0, 0, 0, 0⟩ : Th))) j).map Prod.snd) (m.n + 1)
      rw [th_at1]; exact GA
theorem CalAt.keys {H : Hp} {c : Addr} {m : M} {cal : Vbdead.Cal} {kvs : List (Key × V)} (A : CalAt D H c m cal) (hd : H m.d = some (.dK kvs)) : Keys kvs cal := by
  obtain ⟨kvs', hd', k1, k2, k3⟩ := A.rep.dic
  rw [hd] at hd'
  injection hd' with e; injection e with e
  subst e
  refine ⟨fun i => ?_, ?_, A.good.snd⟩
  · rw [k3, ← A.good.isSome]
    unfold M.th
    cases m.get i <;> rfl
  · rw [k1, size_eq]; exact A.good.n
def sp_join (D : Ads) : Sp := sp_call2 D .join
theorem ok_join (T : Txt K mg D) : FnOk P w K mg base CX0 5 D.f_join D.d_join ["calendar", "number", "priority"] (sp_join D) := by
  refine T.F_join.ok sc_join (fun vs H Q E h => ?_) (fun cdv A outer s H vs Q E hr h => ?_)
  · obtain ⟨c, m, cal, id, x, rfl, _⟩ := h
    rfl
  · obtain ⟨c, m, cal, id, x, rfl, CA, k⟩ := h
    obtain ⟨dc, hc⟩ := CA.rep.cal
    obtain ⟨kvs, hd, _⟩ := CA.rep.dic
    have hk := CA.keys hd
    refine ⟨_, pss_cons (ps_set (i := 3) sc_join.nd rfl (Or.inl rfl) (pe_call (ok_join_refusal T) (hr.mono (by decide)) rfl T.g_join_refusal T.F_join_refusal.kp T.b_join_refusal .nil pass0 (pa_cons (pe_fld (pv 0) rfl) (pa_cons (pv 1) (pa_cons (pv 2) pa_nil)))))
      (pss_cons (ps_if (pt_cmpR op_ne (pv 3) (pe_glob (v := .int (0)) rfl T.c_DONE ⟨_, rfl⟩) (nomark _)) (pss_one (ps_ret (pe_lst (pa_cons (pv 3) pa_nil)))) pss_nil)
      (pss_cons (ps_expr (pe_call (ok_add_thing T) (hr.mono (by decide)) rfl T.g_add_thing T.F_add_thing.kp T.b_add_thing .nil pass0 (pa_cons (pv 0) (pa_cons (pv 1) (pa_cons (pv 2) pa_nil)))))
      (pss_one (ps_ret (pe_lst (pa_cons (pe_glob (v := .int (0)) rfl T.c_DONE ⟨_, rfl⟩) pa_nil)))))), ?_⟩
    refine ⟨_, rfl, c, D.c_Calendar, dc, _, _, rfl, hc, T.l_Calendar, T.n_Calendar_things, rfl, _, rfl, _, rfl, m.d, kvs, id, x, rfl, hd, ?_⟩
    rw [hk.has, hk.len]
    refine ⟨_, rfl, rfl, _, rfl, iteN (fun e1 => ?_) (fun e1 => ?_)⟩
    · exact ⟨_, rfl, by show 1 ≤ sizeLine; decide, k.no CA (by rw [st_join, if_neg e1])⟩
    · exact ⟨_, rfl, _, rfl, _, rfl, c, m, cal, id, x, rfl, CA, e1, fun H' m' A1 K1 => ⟨by decide, k.yes (ans := [0]) (by rw [st_join, if_pos e1]) A1 K1⟩⟩
def sp_joinall (D : Ads) : Sp := fun vs H Q _ => ∃ c m cal q, ∃ row : List Int, vs = [.ref c, .ref q] ∧ CalAt D H c m cal ∧ H q = some (.lst (row.map V.int)) ∧ ¬ m.owns c q ∧ row.length ≤ 16000 ∧ Done D c m H (Vbdead.step cal (.joinAll row)).1 (Vbdead.step cal (.joinAll row)).2 Q
theorem ok_joinall (T : Txt K mg D) : FnOk P w K mg base CX0 5 D.f_joinall D.d_joinall ["calendar", "pairs"] (sp_joinall D) := by
  refine T.F_joinall.ok sc_joinall (fun vs H Q E h => ?_) (fun cdv A outer s H vs Q E hr h => ?_)
  · obtain ⟨c, m, cal, q, row, rfl, _⟩ := h
    rfl
  · obtain ⟨c, m, cal, q, row, rfl, CA, hq, ho, hl, k⟩ := h
    obtain ⟨dc, hc⟩ := CA.rep.cal
    obtain ⟨kvs, hd, _⟩ := CA.rep.dic
    have hk := CA.keys hd
    refine ⟨_, pss_cons (ps_if (pt_cmpR op_eq (pe_op op_mod (pe_callB call_len_seq rfl T.n_len PySem.boot_len (pa_cons (pv 1) pa_nil)) pe_int) pe_int (nomark _)) (pss_one (ps_ret (pe_lst (pa_cons (pe_glob (v := .int (-15)) rfl T.c_ODD_ROW ⟨_, rfl⟩) pa_nil)))) pss_nil)
      (pss_cons (ps_set (i := 2) sc_joinall.nd rfl (Or.inl rfl) (pe_call (ok_joinall_refusal T) (hr.mono (by decide)) rfl T.g_joinall_refusal T.F_joinall_refusal.kp T.b_joinall_refusal .nil pass0 (pa_cons (pe_fld (pv 0) rfl) (pa_cons (pv 1) pa_nil))))
      (pss_cons (ps_if (pt_cmpR op_ne (pv 2) (pe_glob (v := .int (0)) rfl T.c_DONE ⟨_, rfl⟩) (nomark _)) (pss_one (ps_ret (pe_lst (pa_cons (pv 2) pa_nil)))) pss_nil)
      (pss_cons (ps_for PassesOwn.never rfl (pi_range3 rfl T.n_range (pa_cons pe_int (pa_cons (pe_callB call_len_seq rfl T.n_len PySem.boot_len (pa_cons (pv 1) pa_nil)) (pa_cons pe_int pa_nil)))) (pg_name (i := 3) sc_joinall.nd rfl (Or.inl rfl)) (pss_one (ps_expr (pe_call (ok_add_thing T) (hr.mono (by decide)) rfl T.g_add_thing T.F_add_thing.kp T.b_add_thing .nil pass0 (pa_cons (pv 0) (pa_cons (pe_ix ix_list (pv 1) (pv 3) (fun _ _ => rfl)) (pa_cons (pe_ix ix_list (pv 1) (pe_op op_add (pv 3) pe_int) (fun _ _ => rfl)) pa_nil)))))))
      (pss_one (ps_ret (pe_lst (pa_cons (pe_glob (v := .int (0)) rfl T.c_DONE ⟨_, rfl⟩) pa_nil))))))), ?_⟩
    refine ⟨_, rfl, q, _, rfl, .inl (SqL.of hq), _, _, rfl, rfl, (by show (0 : Int) < 2; decide), rfl, _, rfl, iteI (fun e1 => ?_) (fun e1 => ?_)⟩
    · have e1 : row.length % 2 = 1 := by rw [List.length_map] at e1; omega
      exact ⟨by decide, k.no CA (by show (if row.length % 2 = 1 then _ else _) = _; rw [if_pos e1])⟩
    have e2 : ¬ row.length % 2 = 1 := by rw [List.length_map] at e1; omega
    have ek : Vbdead.step cal (.joinAll row) = Vbdead.done cal (Vbdead.joinAll cal row) := by show (if row.length % 2 = 1 then _ else _) = _; rw [if_neg e2]
    obtain ⟨n, hn⟩ : ∃ n, row.length = 2 * n := ⟨row.length / 2, by omega⟩
    refine ⟨_, rfl, c, D.c_Calendar, dc, _, _, rfl, hc, T.l_Calendar, T.n_Calendar_things, rfl, _, rfl, m.d, q, kvs, cal, row, n, rfl, hd, hk, hq, hn, hl, fun H1 s1 => ?_⟩
    have R1 : CalAt D H1 c m cal := ⟨CA.rep.same s1, CA.good⟩
    have K1 : Kept c m H m H1 := fun b o e n => ⟨s1 b o e, n⟩
    refine ⟨_, rfl, rfl, _, rfl, iteN (fun e3 => ?_) (fun e3 => ?_)⟩
    · refine ⟨_, rfl, by show 1 ≤ sizeLine; decide, k.yes (cal := cal) (ans := [refOf (Vbdead.joinAll cal row)]) ?_ R1 K1⟩
      rw [ek]
      cases hj : Vbdead.joinAll cal row with
      | ok d => rw [hj] at e3; exact absurd rfl e3
      | error e => rfl
    obtain ⟨fin, hf⟩ : ∃ fin, Vbdead.joinAll cal row = .ok fin := by
      cases hj : Vbdead.joinAll cal row with
      | ok d => exact ⟨d, rfl⟩
      | error e =>
        rw [hj] at e3
        have e3 : e = 0 := e3
        subst e3
        exact absurd hj (joinAll_no0 cal row)
    refine ⟨_, rfl, q, _, rfl, .inl (SqL.of (s1 _ _ hq)), 0, _, 2, n, rfl, rng2 (by rw [List.length_map, hn]; omega) (by rw [List.length_map]; omega), ?_⟩
    refine for_rangeC (fun i σ H' => ∃ v2 v3 m' ci, σ = [some (.ref c), some (.ref q), v2, v3] ∧ CalAt D H' c m' ci ∧ Kept c m H m' H' ∧ Vbdead.joinAll ci (row.drop (2 * i)) = .ok fin)
      ⟨_, none, m, cal, rfl, R1, K1, hf⟩ ?_ ?_
    · rintro i σ H' hi ⟨v2, v3, m', ci, rfl, A2, K2, ej⟩
      obtain ⟨id, pr, ha, hb, hdr⟩ := drop_two hn hi
      rw [hdr, joinAll_step] at ej
      have ei : (0 : Int) + (i : Nat) * 2 = ((2 * i : Nat) : Int) := by omega
      have ei1 : (0 : Int) + (i : Nat) * 2 + 1 = ((2 * i + 1 : Nat) : Int) := by omega
      have hq2 := (K2 q _ hq ho).1
      have e4 : joinRef (ci.spot id).isSome ci.size id pr = 0 := by
        by_cases z : joinRef (ci.spot id).isSome ci.size id pr = 0
        · exact z
        · rw [if_neg z] at ej; cases ej
      rw [if_pos e4] at ej
      refine ⟨_, rfl, _, rfl, _, rfl, q, _, _, _, rfl, rfl, SqL.of hq2, (at_of (v := .int id) ei (by rw [List.getElem?_map, ha]; rfl)), ?_⟩
      refine ⟨_, rfl, _, rfl, _, _, rfl, rfl, q, _, _, _, rfl, rfl, SqL.of hq2, (at_of (v := .int pr) ei1 (by rw [List.getElem?_map, hb]; rfl)), ?_⟩
      exact ⟨c, m', ci, id, pr, rfl, A2, e4, fun H3 m3 A3 K3 => ⟨_, _, m3, _, rfl, A3, K2.trans K3, ej⟩⟩
    · rintro σ H' ⟨v2, v3, m', ci, rfl, A2, K2, ej⟩
      rw [List.drop_of_length_le (by omega)] at ej
      have ej : ci = fin := Except.ok.inj ej
      subst ej
      refine ⟨by decide, k.yes (ans := [0]) ?_ A2 K2⟩
      rw [ek, hf]; rfl
end
end WP
end
section
set_option Elab.async false
set_option linter.all false
set_option maxRecDepth 100000
namespace WP
open PySem PySem.Spec PyProof.Rows L2 WM
section
variable {P : Program} {w : World} {K : PySem.W.Frag} {mg : Str → Option Value} {base : Heap} {D : Ads}
theorem stay {H : Hp} {a b : Addr} {o u : HO} (n : H a = none) (h : H b = some u) : upd H a o b = some u := by rw [upd_ne (ne_of_none h n)]; exact h
def sp_Calendar_init (D : Ads) : Sp := fun vs H Q _ => ∃ c dc, vs = [.ref c] ∧ H c = some (.ins D.c_Calendar dc []) ∧ ∀ H' m, CalAt D H' c m Vbdead.start → (∀ b o, H b = some o → b ≠ c → H' b = some o ∧ ¬ m.owns c b) → Q .non H'
theorem good_start : Good Vbdead.start 0 (fun _ => []) (fun _ => none) 0 := by
  refine ⟨rfl, fun w hw => ?_, fun id => ?_, rfl, Snd.start⟩
  · match w, hw with
    | 0, _ => rfl
    | 1, _ => rfl
    | 2, _ => rfl
    | 3, _ => rfl
  · rw [spot_none.mpr fun s hs => by cases hs]; rfl
set_option maxHeartbeats 4000000 in
theorem ok_Calendar_init (T : Txt K mg D) : FnOk P w K mg base CX0 1 D.f_Calendar_init D.d_Calendar_init ["self"] (sp_Calendar_init D) := by
  refine T.F_Calendar_init.ok sc_Calendar_init (fun vs H Q E h => ?_) (fun cdv A outer s H vs Q E hr h => ?_)
  · obtain ⟨c, dc, rfl, _⟩ := h
    rfl
  · obtain ⟨c, dc, rfl, hc, k⟩ := h
    refine ⟨_, pss_cons (ps_fld (pv 0) pe_int rfl)
      (pss_cons (ps_fld (pv 0) pe_dnewK rfl)
      (pss_one (ps_fld (pv 0) (pe_lst (pa_cons (pe_lst pa_nil) (pa_cons (pe_lst pa_nil) (pa_cons (pe_lst pa_nil) (pa_cons (pe_lst pa_nil) pa_nil))))) rfl))), ?_⟩
    refine ⟨_, rfl, c, D.c_Calendar, dc, _, rfl, hc, T.l_Calendar, T.n_Calendar_clock, (by show 0 < 1000; decide), fun d hd => ?_⟩
    have f1 : upd H c (.ins D.c_Calendar dc (putF "clock" (.int 0) [])) c = some (.ins D.c_Calendar dc (putF "clock" (.int 0) [])) := upd_same
    refine ⟨_, rfl, c, D.c_Calendar, dc, _, rfl, stay hd f1, T.l_Calendar, T.n_Calendar_things, (by show 1 < 1000; decide), ?_⟩
    refine ⟨Nat.zero_le _, fun a0 h0 => ⟨Nat.zero_le _, fun a1 h1 => ⟨Nat.zero_le _, fun a2 h2 => ⟨Nat.zero_le _, fun a3 h3 => ⟨(by show 4 ≤ sizeLine; decide), fun l hl => ?_⟩⟩⟩⟩⟩
    have ndc : d ≠ c := fun z => by subst z; rw [upd_same] at hd; cases hd
    generalize hH1 : upd H c (.ins D.c_Calendar dc (putF "clock" (.int 0) [])) = H1 at *
    have s1 : ∀ b o, H b = some o → b ≠ c → H1 b = some o := fun b o e n => by rw [← hH1, upd_ne n]; exact e
    have nd : ∀ b o, H b = some o → b ≠ c → b ≠ d := fun b o e n => ne_of_none (s1 b o e n) hd
    generalize hH2 : upd (upd H1 d (.dK [])) c (.ins D.c_Calendar dc (putF "things" (.ref d) (putF "clock" (.int 0) []))) = H2 at *
    have c2 : H2 c = some (.ins D.c_Calendar dc (putF "things" (.ref d) (putF "clock" (.int 0) []))) := by rw [← hH2]; exact upd_same
    have d2 : H2 d = some (.dK []) := by rw [← hH2, upd_ne ndc]; exact upd_same
    have s2 : ∀ b o, H b = some o → b ≠ c → H2 b = some o := fun b o e n => by rw [← hH2, upd_ne n]; exact stay hd (s1 b o e n)
    have hl' : upd (upd (upd (upd H2 a0 (.lst [])) a1 (.lst [])) a2 (.lst [])) a3 (.lst []) l = none := hl
    have up : ∀ b o, H2 b = some o → upd (upd (upd (upd (upd H2 a0 (.lst [])) a1 (.lst [])) a2 (.lst [])) a3 (.lst [])) l (.lst [.ref a0, .ref a1, .ref a2, .ref a3]) b = some o := fun b o e => stay hl' (stay h3 (stay h2 (stay h1 (stay h0 e))))
    have r0 : upd (upd (upd (upd (upd H2 a0 (.lst [])) a1 (.lst [])) a2 (.lst [])) a3 (.lst [])) l (.lst [.ref a0, .ref a1, .ref a2, .ref a3]) a0 = some (.lst []) := stay hl' (stay h3 (stay h2 (stay h1 upd_same)))
    have r1 : upd (upd (upd (upd (upd H2 a0 (.lst [])) a1 (.lst [])) a2 (.lst [])) a3 (.lst [])) l (.lst [.ref a0, .ref a1, .ref a2, .ref a3]) a1 = some (.lst []) := stay hl' (stay h3 (stay h2 upd_same))
    have r2 : upd (upd (upd (upd (upd H2 a0 (.lst [])) a1 (.lst [])) a2 (.lst [])) a3 (.lst [])) l (.lst [.ref a0, .ref a1, .ref a2, .ref a3]) a2 = some (.lst []) := stay hl' (stay h3 upd_same)
    have r3 : upd (upd (upd (upd (upd H2 a0 (.lst [])) a1 (.lst [])) a2 (.lst [])) a3 (.lst [])) l (.lst [.ref a0, .ref a1, .ref a2, .ref a3]) a3 = some (.lst []) := stay hl' upd_same
    have n01 : a0 ≠ a1 := ne_of_none (upd_same (H := H2) (o := .lst [])) h1
    have n02 : a0 ≠ a2 := ne_of_none (stay h1 (upd_same (H := H2) (o := .lst []))) h2
    have n03 : a0 ≠ a3 := ne_of_none (stay h2 (stay h1 (upd_same (H := H2) (o := .lst [])))) h3
    have n12 : a1 ≠ a2 := ne_of_none (upd_same (o := .lst [])) h2
    have n13 : a1 ≠ a3 := ne_of_none (stay h2 (upd_same (o := .lst []))) h3
    have n23 : a2 ≠ a3 := ne_of_none (upd_same (o := .lst [])) h3
    have rl : upd (upd (upd (upd (upd H2 a0 (.lst [])) a1 (.lst [])) a2 (.lst [])) a3 (.lst [])) l (.lst [.ref a0, .ref a1, .ref a2, .ref a3]) l = some (.lst [.ref a0, .ref a1, .ref a2, .ref a3]) := upd_same
    have hfr : ∀ b o, H b = some o → b ≠ c → b ≠ a0 ∧ b ≠ a1 ∧ b ≠ a2 ∧ b ≠ a3 ∧ b ≠ l := fun b o e n =>
      have e2 := s2 b o e n
      ⟨ne_of_none e2 h0, ne_of_none (stay h0 e2) h1, ne_of_none (stay h1 (stay h0 e2)) h2, ne_of_none (stay h2 (stay h1 (stay h0 e2))) h3, ne_of_none (stay h3 (stay h2 (stay h1 (stay h0 e2)))) hl'⟩
    have hcl : upd (upd (upd (upd (upd H2 a0 (.lst [])) a1 (.lst [])) a2 (.lst [])) a3 (.lst [])) l (.lst [.ref a0, .ref a1, .ref a2, .ref a3]) c = some (.ins D.c_Calendar dc (putF "things" (.ref d) (putF "clock" (.int 0) []))) := up _ _ c2
    refine ⟨_, rfl, c, D.c_Calendar, dc, _, rfl, hcl, T.l_Calendar, T.n_Calendar_chains, (by show 2 < 1000; decide), ?_⟩
    generalize hH3 : upd (upd (upd (upd (upd H2 a0 (.lst [])) a1 (.lst [])) a2 (.lst [])) a3 (.lst [])) l (.lst [.ref a0, .ref a1, .ref a2, .ref a3]) = H3 at *
    have wr : ∀ b o, H3 b = some o → b ≠ c → upd H3 c (.ins D.c_Calendar dc (putF "chains" (.ref l) (putF "things" (.ref d) (putF "clock" (.int 0) [])))) b = some o := fun b o e n => by rw [upd_ne n]; exact e
    have nc : ∀ {b xs}, H3 b = some (.lst xs) → b ≠ c := fun e => ne_of e hcl (by intro z; cases z)
    refine k _ ⟨d, l, fun w => match w with | 0 => a0 | 1 => a1 | 2 => a2 | _ => a3, 0, fun _ => none, 0, fun _ => []⟩ ⟨⟨⟨dc, upd_same⟩, wr _ _ rl (nc rl), fun w hw => ?_, fun w v hw hv e => ?_, ⟨[], wr _ _ (up _ _ d2) ndc, rfl, List.nodup_nil, fun i => rfl⟩, fun i a t e => by cases e⟩, good_start⟩ ?_
    · match w, hw with
      | 0, _ => exact wr _ _ r0 (nc r0)
      | 1, _ => exact wr _ _ r1 (nc r1)
      | 2, _ => exact wr _ _ r2 (nc r2)
      | 3, _ => exact wr _ _ r3 (nc r3)
    · match w, v, hw, hv, e with
      | 0, 0, _, _, _ => rfl
      | 1, 1, _, _, _ => rfl
      | 2, 2, _, _, _ => rfl
      | 3, 3, _, _, _ => rfl
      | 0, 1, _, _, e => exact absurd e n01
      | 0, 2, _, _, e => exact absurd e n02
      | 0, 3, _, _, e => exact absurd e n03
      | 1, 0, _, _, e => exact absurd e.symm n01
      | 1, 2, _, _, e => exact absurd e n12
      | 1, 3, _, _, e => exact absurd e n13
      | 2, 0, _, _, e => exact absurd e.symm n02
      | 2, 1, _, _, e => exact absurd e.symm n12
      | 2, 3, _, _, e => exact absurd e n23
      | 3, 0, _, _, e => exact absurd e.symm n03
      | 3, 1, _, _, e => exact absurd e.symm n13
      | 3, 2, _, _, e => exact absurd e.symm n23
    · intro b o e n
      obtain ⟨m0, m1, m2, m3, m4⟩ := hfr b o e n
      refine ⟨wr _ _ (up _ _ (s2 b o e n)) n, ?_⟩
      rintro (z | z | z | ⟨w, hw, z⟩ | ⟨i, a, t, z, _⟩)
      · exact n z
      · exact nd b o e n z
      · exact m4 z
      · match w, hw, z with
        | 0, _, z => exact m0 z
        | 1, _, z => exact m1 z
        | 2, _, z => exact m2 z
        | 3, _, z => exact m3 z
      · cases z
end
end WP
end
section
set_option Elab.async false
set_option linter.all false
set_option maxRecDepth 100000
namespace WP
open PySem PySem.Spec PyProof.Rows L2 WM
section
variable {P : Program} {w : World} {K : PySem.W.Frag} {mg : Str → Option Value} {base : Heap} {D : Ads}
/-- a list that is no part of the calendar -/
def Held (K : PySem.W.Frag) (H : Hp) (c : Addr) (m : M) (q : Addr) (xs : List V) : Prop := (Rd H q (.lst xs) ∧ ¬ m.owns c q) ∨ ∀ H', SqL K H' q xs
theorem Held.sq {H : Hp} {c : Addr} {m : M} {q : Addr} {xs : List V} (h : Held K H c m q xs) : SqL K H q xs := by
  rcases h with h | h
  · exact .inl h.1
  · exact h H
theorem Held.kept {H H' : Hp} {c : Addr} {m m' : M} {q : Addr} {xs : List V} (h : Held K H c m q xs) (k : Kept c m H m' H') : Held K H' c m' q xs := by
  rcases h with ⟨h, n⟩ | h
  · rcases h with h | ⟨o, h⟩
    · exact .inl ⟨.inl (k _ _ h n).1, (k _ _ h n).2⟩
    · exact .inl ⟨.inr ⟨o, (k _ _ h n).1⟩, (k _ _ h n).2⟩
  · exact .inr h
theorem Held.other {H : Hp} {c : Addr} {m : M} {q p : Addr} {xs : List V} {o : HO} (h : Held K H c m q xs) (n : q ≠ p ∨ ∀ H', SqL K H' q xs) : Held K (upd H p o) c m q xs := by
  rcases n with n | n
  · rcases h with ⟨h, z⟩ | h
    · rcases h with h | ⟨ob, h⟩
      · exact .inl ⟨.inl (by rw [upd_ne n]; exact h), z⟩
      · exact .inl ⟨.inr ⟨ob, by rw [upd_ne n]; exact h⟩, z⟩
    · exact .inr h
  · exact .inr n
theorem Held.ne {H : Hp} {c : Addr} {m : M} {q p : Addr} {xs : List V} (h : Held K H c m q xs) (n : H p = none) : q ≠ p ∨ ∀ H', SqL K H' q xs := by
  rcases h with ⟨h, z⟩ | h
  · rcases h with h | ⟨ob, h⟩
    · exact .inl (ne_of_none h n)
    · exact .inl (ne_of_none h n)
  · exact .inr h
theorem CalAt.other {H : Hp} {c : Addr} {m : M} {cal : Vbdead.Cal} {p : Addr} {o : HO} (A : CalAt D H c m cal) (n : ¬ m.owns c p) : CalAt D (upd H p o) c m cal :=
  ⟨A.rep.mono fun b u hb e => by rw [upd_ne (show b ≠ p from fun z => n (by rw [← z]; exact hb))]; exact e, A.good⟩

/-! ### the calls of the list, one behind another -/
def sp_call_end (D : Ads) (K : PySem.W.Frag) : Sp := fun vs H Q _ => ∃ q, ∃ (l : List Int) (i : Nat) (p : Int) (r : List Int) (x : List (List Int)) (t : List Int), vs = [.ref q, .int (i : Int)] ∧ SqL K H q (l.map V.int) ∧ l.drop i = p :: r ∧
  PyFlat.call PyVbdead.shape (p :: r) = some (x, t) ∧ Q (.int ((l.length - t.length : Nat) : Int)) H
def sp_answer_call (D : Ads) (K : PySem.W.Frag) : Sp := fun vs H Q _ => ∃ c m cal q, ∃ (l : List Int) (i : Nat) (p : Int) (r : List Int) (x : List (List Int)) (t : List Int), vs = [.ref c, .ref q, .int (i : Int), .int ((l.length - t.length : Nat) : Int)] ∧ CalAt D H c m cal ∧
  Held K H c m q (l.map V.int) ∧ l.length ≤ 16000 ∧ l.drop i = p :: r ∧ PyFlat.call PyVbdead.shape (p :: r) = some (x, t) ∧ Done D c m H (Vbdead.does cal x).1 (Vbdead.does cal x).2 Q
theorem call_shorter {p : Int} {r : List Int} {x : List (List Int)} {t : List Int} (h : PyFlat.call PyVbdead.shape (p :: r) = some (x, t)) : ∃ k, t = (p :: r).drop (k + 1) := by
  have rows : ∀ (k : Nat) (r : List Int) (xs : List (List Int)) (t : List Int), PyFlat.rows k r = some (xs, t) → ∃ j, t = r.drop j := by
    intro k
    induction k with
    | zero => intro r xs t h; simp [PyFlat.rows] at h; exact ⟨0, by rw [h.2]; rfl⟩
    | succ k ih =>
      intro r xs t h
      rw [PyFlat.rows] at h
      cases e : PyFlat.row r with
      | none => rw [e] at h; cases h
      | some y =>
        obtain ⟨y1, y2⟩ := y
        rw [e] at h
        simp only at h
        cases e2 : PyFlat.rows k y2 with
        | none => rw [e2] at h; cases h
        | some z =>
          obtain ⟨z1, z2⟩ := z
          rw [e2] at h
          simp only [Option.some.injEq, Prod.mk.injEq] at h
          obtain ⟨j, hj⟩ := ih _ _ _ e2
          cases r with
          | nil => cases e
          | cons n r' =>
            rw [PyFlat.row] at e
            by_cases q : 0 ≤ n ∧ n.toNat ≤ r'.length
            · rw [if_pos q] at e
              simp only [Option.some.injEq, Prod.mk.injEq] at e
              refine ⟨n.toNat + j + 1, ?_⟩
              rw [← h.2, hj, ← e.2, List.drop_drop, List.drop_succ_cons]
            · rw [if_neg q] at e; cases e
  rw [PyFlat.call] at h
  cases e : PyVbdead.shape p with
  | none => rw [e] at h; cases h
  | some s =>
    obtain ⟨n, k⟩ := s
    rw [e] at h
    simp only at h
    by_cases q : r.length < n
    · rw [if_pos q] at h; cases h
    · rw [if_neg q] at h
      cases e2 : PyFlat.rows k (r.drop n) with
      | none => rw [e2] at h; cases h
      | some z =>
        obtain ⟨z1, z2⟩ := z
        rw [e2] at h
        simp only [Option.some.injEq, Prod.mk.injEq] at h
        obtain ⟨j, hj⟩ := rows _ _ _ _ e2
        refine ⟨n + j, ?_⟩
        rw [← h.2, hj, List.drop_drop, List.drop_succ_cons]
/-- where the next call begins -/
theorem next_at {l : List Int} {i : Nat} {p : Int} {r : List Int} {x : List (List Int)} {t : List Int} (hd : l.drop i = p :: r) (h : PyFlat.call PyVbdead.shape (p :: r) = some (x, t)) :
    i < l.length - t.length ∧ l.length - t.length ≤ l.length ∧ l.drop (l.length - t.length) = t := by
  obtain ⟨k, hk⟩ := call_shorter h
  have e : t = l.drop (i + (k + 1)) := by rw [← List.drop_drop, hd]; exact hk
  have hi : i < l.length := by
    by_cases z : i < l.length
    · exact z
    · rw [List.drop_of_length_le (by omega)] at hd; cases hd
  have hl : t.length = l.length - (i + (k + 1)) := by rw [e, List.length_drop]
  refine ⟨by omega, by omega, ?_⟩
  by_cases z : i + (k + 1) ≤ l.length
  · rw [show l.length - t.length = i + (k + 1) by omega]; exact e.symm
  · have ht : t = [] := by rw [e]; exact List.drop_of_length_le (by omega)
    rw [ht]; simp
end
end WP
end
section
set_option Elab.async false
set_option linter.all false
set_option maxRecDepth 100000
namespace WP
open PySem PySem.Spec PyProof.Rows L2 WM
section
variable {P : Program} {w : World} {K : PySem.W.Frag} {mg : Str → Option Value} {base : Heap} {D : Ads}
def sp_call0 (D : Ads) (f : Vbdead.Call) : Sp := fun vs H Q _ => ∃ c m cal, vs = [.ref c] ∧ CalAt D H c m cal ∧ Done D c m H (Vbdead.step cal f).1 (Vbdead.step cal f).2 Q
/-- an answer of two lists put together -/
theorem Done.cat {c : Addr} {m m1 : M} {H H1 : Hp} {cal : Vbdead.Cal} {x : Vbdead.Cal × List Int} {Q : VK} {hd tl : List Int} (d : Done D c m H x.1 x.2 Q) (h : x = (cal, hd ++ tl)) (A : CalAt D H1 c m1 cal) (k : Kept c m H m1 H1) {xs zs : List V}
    (e1 : xs = hd.map V.int) (e2 : zs = tl.map V.int) : ∀ p, H1 p = none → Q (.ref p) (upd H1 p (.lst (xs ++ zs))) := by
  subst e1 e2
  rw [← List.map_append]
  exact Done.yes d h A k
theorem CalAt.laid {H : Hp} {c : Addr} {m : M} {cal : Vbdead.Cal} (A : CalAt D H c m cal) {p : Addr} {o : HO} (h : H p = none) : CalAt D (upd H p o) c m cal ∧ Kept c m H m (upd H p o) :=
  ⟨⟨(A.rep.laid h).1, A.good⟩, (A.rep.laid h).2⟩
theorem Rep.rowAt {H : Hp} {c : Addr} {m : M} (R : Rep D H c m) {w : Nat} (hw : w < 4) {x : V} (h : [V.ref (m.ra 0), .ref (m.ra 1), .ref (m.ra 2), .ref (m.ra 3)][w]? = some x) : x = .ref (m.ra w) := by
  match w, hw, h with
  | 0, _, h => exact (Option.some.inj h).symm
  | 1, _, h => exact (Option.some.inj h).symm
  | 2, _, h => exact (Option.some.inj h).symm
  | 3, _, h => exact (Option.some.inj h).symm
theorem small2000 {n : Nat} (h : n ≤ 2000) : n < sizeLine := Nat.lt_of_le_of_lt h (by decide)
theorem smallLine {n : Nat} (h : n ≤ 1000000) : n < sizeLine := Nat.lt_of_le_of_lt h (by decide)
theorem all_flat (l : List Int) : (l.map V.int).all flatV = true := by
  rw [List.all_map, List.all_eq_true]
  intro x _
  rfl
/-- the known thing that an id names, as the dict has it -/
theorem CalAt.thing {H : Hp} {c : Addr} {m : M} {cal : Vbdead.Cal} (A : CalAt D H c m cal) {id : Int} {t : Th} (h : m.th id = some t) : ∃ a kvs, m.get id = some (a, t) ∧ H m.d = some (.dK kvs) ∧ valV kvs (Sum.inl id) = some (.ref a) ∧ ThAt D H a t := by
  obtain ⟨a, hg⟩ := M.get_of_th h
  obtain ⟨kvs, hd, k1, k2, k3⟩ := A.rep.dic
  exact ⟨a, kvs, hg, hd, by rw [k3, hg]; rfl, (A.rep.thg id a t hg).1⟩
theorem get_map {α β : Type} {l : List α} {f : α → β} {i : Nat} {y : β} (h : (l.map f)[i]? = some y) : ∃ x, l[i]? = some x ∧ f x = y := by
  rw [List.getElem?_map] at h
  cases e : l[i]? with
  | none => rw [e] at h; cases h
  | some x => rw [e] at h; exact ⟨x, rfl, Option.some.inj h⟩

/-! ### ready, first -/
def sp_ready_ids (D : Ads) : Sp := fun vs H Q _ => ∃ c m cal, vs = [.ref c] ∧ CalAt D H c m cal ∧ ∀ p, H p = none → Q (.ref p) (upd H p (.lst ((cal.ready.map Int.ofNat).map V.int)))
theorem ok_ready_ids (T : Txt K mg D) : FnOk P w K mg base CX0 1 D.f_ready_ids D.d_ready_ids ["calendar"] (sp_ready_ids D) := by
  refine T.F_ready_ids.ok sc_ready_ids (fun vs H Q E h => ?_) (fun cdv A outer s H vs Q E hr h => ?_)
  · obtain ⟨c, m, cal, rfl, _⟩ := h
    rfl
  · obtain ⟨c, m, cal, rfl, CA, k⟩ := h
    obtain ⟨dc, hc⟩ := CA.rep.cal
    have hr0 := CA.rep.row 0 (by decide)
    have e0 := CA.good.row0
    refine ⟨_, pss_one (ps_ret (pe_lc (own := [("number", 1)]) (tt := (tTest (tOp rEq (tFld K (tDGet (tFld K (tVar 0) "things") (tVar 1)) "holds") (tC (.int 0))))) (te := (tVar 1)) rfl sc_ready_ids.nd (pi_list (pe_ix ix_list (pe_fld (pv 0) rfl) (pe_glob (v := .int (0)) rfl T.c_CURRENT ⟨_, rfl⟩) (fun _ _ => rfl))) (blkOk_by (by show blkC ["calendar", "number"] (defScope s_ready_ids) _ _ = true; decide +kernel)) (by intros; exact pg_name (i := 1) sc_ready_ids.nd rfl (Or.inl rfl)) (by intros; exact (pts_one (pt_cmpR op_eq (pe_fld (pe_dget (hu_of hr) (pe_fld (pv 0) rfl) (pv 1) (fun _ _ => rfl)) rfl) pe_int (nomark _)))) (by intros; exact (pv 1)))), ?_⟩
    refine ⟨_, rfl, c, D.c_Calendar, dc, _, _, rfl, hc, T.l_Calendar, T.n_Calendar_chains, rfl, m.l, _, _, _, rfl, rfl, SqL.of CA.rep.out, at_rows (w := 0) (by decide), m.ra 0, rfl, ⟨_, SqL.of hr0⟩, fun p hp => ?_⟩
    refine lc_list (xs := (m.row 0).map V.int) (fun i H' => H' = upd H p (.lst ((readyN (cal.current.take i)).map V.int))) rfl ?_ ?_ ?_
    · rintro i H' _ rfl
      exact SqL.of (by rw [upd_ne (ne_of_none hr0 hp)]; exact hr0)
    · rintro i x H' hx rfl
      rw [e0, List.map_map] at hx
      obtain ⟨y, hy, rfl⟩ := get_map hx
      have hmem : y ∈ cal.current := List.mem_of_getElem? hy
      have L := CA.laid (o := .lst ((readyN (cal.current.take i)).map V.int)) hp
      obtain ⟨a, kvs, hg, hd, hv, dx, ha⟩ := L.1.thing (CA.good.thCur hmem)
      obtain ⟨dc1, hc1⟩ := L.1.rep.cal
      refine ⟨rfl, ?_⟩
      refine ⟨_, rfl, c, D.c_Calendar, dc1, _, _, rfl, hc1, T.l_Calendar, T.n_Calendar_things, rfl, _, rfl, m.d, .ref a, rfl, (by rw [← hv]; exact DGet.k (k := Sum.inl (y.id : Int)) hd), a, D.c_Thing, dx, _, _, rfl, ha, T.l_Thing, T.n_Thing_holds, rfl, rfl, _, rfl, iteI (fun e => ?_) (fun e => ?_)⟩
      · have e : y.held = 0 := by
          have e : (y.held : Int) = 0 := e
          omega
        refine ⟨_, rfl, _, upd_same, ?_, ?_⟩
        · rw [List.length_map]
          refine small2000 (Nat.le_trans (readyN_len _) (Nat.le_trans (List.length_take_le' ..) ?_))
          have := CA.good.rowLen (w := 0) (by decide)
          rw [e0, List.length_map] at this; exact this
        · rw [upd_upd, take_snoc hy, readyN_yes e, List.map_append]; rfl
      · have e : y.held ≠ 0 := fun z => e (by show (y.held : Int) = 0; rw [z]; rfl)
        show _ = _
        rw [take_snoc hy, readyN_no e]
    · rintro H' rfl
      have := k p hp
      rw [← readyN_all] at this
      rw [e0, List.length_map, List.length_map, List.take_length]
      exact this
theorem ready_len {cal : Vbdead.Cal} {m : M} (G : Good cal m.clock m.row m.th m.n) : (cal.ready.map Int.ofNat).length ≤ 2000 := by
  rw [← readyN_all]
  refine Nat.le_trans (readyN_len _) ?_
  have := G.rowLen (w := 0) (by decide)
  rw [G.row0, List.length_map] at this; exact this
def sp_ready (D : Ads) : Sp := sp_call0 D .ready
theorem ok_ready (T : Txt K mg D) : FnOk P w K mg base CX0 2 D.f_ready D.d_ready ["calendar"] (sp_ready D) := by
  refine T.F_ready.ok sc_ready (fun vs H Q E h => ?_) (fun cdv A outer s H vs Q E hr h => ?_)
  · obtain ⟨c, m, cal, rfl, _⟩ := h
    rfl
  · obtain ⟨c, m, cal, rfl, CA, k⟩ := h
    refine ⟨_, pss_cons (ps_set (i := 1) sc_ready.nd rfl (Or.inl rfl) (pe_call (ok_ready_ids T) (hr.mono (by decide)) rfl T.g_ready_ids T.F_ready_ids.kp T.b_ready_ids .nil pass0 (pa_cons (pv 0) pa_nil)))
      (pss_one (ps_ret (pe_op op_cat (pe_lst (pa_cons (pe_glob (v := .int (0)) rfl T.c_DONE ⟨_, rfl⟩) (pa_cons (pe_callB call_len_seq rfl T.n_len PySem.boot_len (pa_cons (pv 1) pa_nil)) pa_nil))) (pv 1)))), ?_⟩
    refine ⟨_, rfl, c, m, cal, rfl, CA, fun p hp => ?_⟩
    have L := CA.laid (o := .lst ((cal.ready.map Int.ofNat).map V.int)) hp
    refine ⟨_, rfl, p, _, rfl, .inl (SqL.of upd_same), (by show 2 ≤ sizeLine; decide), fun l hl => ?_⟩
    have L2 := L.1.laid (o := .lst [.int 0, .int (((cal.ready.map Int.ofNat).map V.int).length : Nat)]) hl
    have npl : p ≠ l := fun z => by subst z; rw [upd_same] at hl; cases hl
    refine ⟨_, rfl, l, p, _, _, rfl, rfl, upd_same, (by rw [upd_ne npl]; exact upd_same), ?_, ?_⟩
    · rw [List.length_map]
      have := ready_len CA.good
      exact Nat.le_of_lt (smallLine (show 2 + _ ≤ 1000000 by omega))
    · refine k.cat (hd := [0, (cal.ready.length : Int)]) (tl := cal.ready.map Int.ofNat) rfl L2.1 (L.2.trans L2.2) ?_ rfl
      rw [List.length_map, List.length_map]; rfl
def sp_first (D : Ads) : Sp := sp_call0 D .first
theorem ok_first (T : Txt K mg D) : FnOk P w K mg base CX0 2 D.f_first D.d_first ["calendar"] (sp_first D) := by
  refine T.F_first.ok sc_first (fun vs H Q E h => ?_) (fun cdv A outer s H vs Q E hr h => ?_)
  · obtain ⟨c, m, cal, rfl, _⟩ := h
    rfl
  · obtain ⟨c, m, cal, rfl, CA, k⟩ := h
    refine ⟨_, pss_cons (ps_set (i := 1) sc_first.nd rfl (Or.inl rfl) (pe_call (ok_ready_ids T) (hr.mono (by decide)) rfl T.g_ready_ids T.F_ready_ids.kp T.b_ready_ids .nil pass0 (pa_cons (pv 0) pa_nil)))
      (pss_cons (ps_if (pt_cmpR op_eq (pe_callB call_len_seq rfl T.n_len PySem.boot_len (pa_cons (pv 1) pa_nil)) pe_int (nomark _)) (pss_one (ps_ret (pe_lst (pa_cons (pe_glob (v := .int (0)) rfl T.c_DONE ⟨_, rfl⟩) (pa_cons pe_int pa_nil))))) pss_nil)
      (pss_one (ps_ret (pe_lst (pa_cons (pe_glob (v := .int (0)) rfl T.c_DONE ⟨_, rfl⟩) (pa_cons (pe_ix ix_list (pv 1) pe_int (fun _ _ => rfl)) pa_nil)))))), ?_⟩
    refine ⟨_, rfl, c, m, cal, rfl, CA, fun p hp => ?_⟩
    have L := CA.laid (o := .lst ((cal.ready.map Int.ofNat).map V.int)) hp
    refine ⟨_, rfl, p, _, rfl, .inl (SqL.of upd_same), rfl, _, rfl, iteI (fun e => ?_) (fun e => ?_)⟩
    · have e : cal.ready = [] := by
        rw [List.length_map, List.length_map] at e
        exact List.eq_nil_of_length_eq_zero (by omega)
      refine ⟨by decide, k.yes (cal := cal) (ans := [0, 0]) ?_ L.1 L.2⟩
      show (cal, [(0 : Int), ((cal.ready.headD 0 : Nat) : Int)]) = _
      rw [e]; rfl
    · have hne : cal.ready ≠ [] := fun z => e (by rw [z]; rfl)
      obtain ⟨x, r, hx⟩ := List.exists_cons_of_ne_nil hne
      refine ⟨_, rfl, p, _, _, .int (x : Int), rfl, rfl, SqL.of upd_same, atI_nat (j := 0) (by rw [hx]; rfl), by show 2 ≤ sizeLine; decide, k.yes (cal := cal) (ans := [0, (x : Int)]) ?_ L.1 L.2⟩
      show (cal, [(0 : Int), ((cal.ready.headD 0 : Nat) : Int)]) = _
      rw [hx]; rfl

/-! ### where -/
def sp_due_or_rest (D : Ads) : Sp := fun vs H Q _ => ∃ a t, vs = [.ref a] ∧ ThAt D H a t ∧ Q (.int (if t.chn = 1 then t.due else t.rst)) H
theorem ok_due_or_rest (T : Txt K mg D) : FnOk P w K mg base CX0 1 D.f_due_or_rest D.d_due_or_rest ["thing"] (sp_due_or_rest D) := by
  refine T.F_due_or_rest.ok sc_due_or_rest (fun vs H Q E h => ?_) (fun cdv A outer s H vs Q E hr h => ?_)
  · obtain ⟨a, t, rfl, _⟩ := h
    rfl
  · obtain ⟨a, t, rfl, ⟨dx, ha⟩, k⟩ := h
    refine ⟨_, pss_cons (ps_if (pt_cmpR op_eq (pe_fld (pv 0) rfl) (pe_glob (v := .int (1)) rfl T.c_FUTURE ⟨_, rfl⟩) (nomark _)) (pss_one (ps_ret (pe_fld (pv 0) rfl))) pss_nil)
      (pss_one (ps_ret (pe_fld (pv 0) rfl))), ?_⟩
    refine ⟨_, rfl, a, D.c_Thing, dx, _, _, rfl, ha, T.l_Thing, T.n_Thing_chain, rfl, rfl, _, rfl, iteI (fun e => ?_) (fun e => ?_)⟩
    · rw [if_pos (by omega)] at k
      exact ⟨_, rfl, a, D.c_Thing, dx, _, _, rfl, ha, T.l_Thing, T.n_Thing_due, rfl, k⟩
    · rw [if_neg (by omega)] at k
      exact ⟨_, rfl, a, D.c_Thing, dx, _, _, rfl, ha, T.l_Thing, T.n_Thing_rest, rfl, k⟩
def sp_where (D : Ads) : Sp := sp_call1 D .where_
theorem ok_where (T : Txt K mg D) : FnOk P w K mg base CX0 2 D.f_where D.d_where ["calendar", "number"] (sp_where D) := by
  refine T.F_where.ok sc_where (fun vs H Q E h => ?_) (fun cdv A outer s H vs Q E hr h => ?_)
  · obtain ⟨c, m, cal, id, rfl, _⟩ := h
    rfl
  · obtain ⟨c, m, cal, id, rfl, ⟨R, G⟩, k⟩ := h
    obtain ⟨dc, hc⟩ := R.cal
    obtain ⟨kvs, hd, k1, k2, k3⟩ := R.dic
    refine ⟨_, pss_cons (ps_if (pt_cmp (pc_dnotin (hu_of hr) (pv 1) (pe_fld (pv 0) rfl))) (pss_one (ps_ret (pe_lst (pa_cons (pe_glob (v := .int (-5)) rfl T.c_NOT_KNOWN ⟨_, rfl⟩) pa_nil)))) pss_nil)
      (pss_cons (ps_set (i := 2) sc_where.nd rfl (Or.inl rfl) (pe_dget (hu_of hr) (pe_fld (pv 0) rfl) (pv 1) (fun _ _ => rfl)))
      (pss_cons (ps_set (i := 3) sc_where.nd rfl (Or.inl rfl) (pe_bm PySem.F.plainAttrs_list PySem.F.slot_list_index PySem.F.type_list_index mt_index (pe_ix ix_list (pe_fld (pv 0) rfl) (pe_fld (pv 2) rfl) (fun _ _ => rfl)) (pa_cons (pv 1) pa_nil)))
      (pss_one (ps_ret (pe_lst (pa_cons (pe_glob (v := .int (0)) rfl T.c_DONE ⟨_, rfl⟩) (pa_cons (pe_fld (pv 2) rfl) (pa_cons (pe_fld (pv 2) rfl) (pa_cons (pe_fld (pv 2) rfl) (pa_cons (pe_call (ok_due_or_rest T) (hr.mono (by decide)) rfl T.g_due_or_rest T.F_due_or_rest.kp T.b_due_or_rest .nil pass0 (pa_cons (pv 2) pa_nil)) (pa_cons (pv 3) pa_nil))))))))))), ?_⟩
    cases e : cal.spot id with
    | none =>
      have hv : valV kvs (Sum.inl id) = none := by rw [k3, M.get_none (G.toNone e)]; rfl
      have ek : Vbdead.step cal (.where_ id) = (cal, [-5]) := by
        exact st_where_no e
      rw [ek] at k
      refine ⟨_, rfl, _, rfl, c, D.c_Calendar, dc, _, _, rfl, hc, T.l_Calendar, T.n_Calendar_things, rfl, m.d, none, rfl, (by rw [← hv]; exact DGet.k (k := Sum.inl id) hd), _, rfl, iteT ?_⟩
      exact ⟨by decide, fun p hp => k.ret ⟨R, G⟩ Kept.refl p hp⟩
    | some s =>
      obtain ⟨a, hg⟩ := M.get_of_th (G.toSome e)
      obtain ⟨hs, hid⟩ := spot_some_mem e
      have hv : valV kvs (Sum.inl id) = some (.ref a) := by rw [k3, hg]; rfl
      have N := G.near e
      obtain ⟨⟨dx, ha⟩, _⟩ := R.thg id a _ hg
      have hok := G.snd.ok s hs
      refine ⟨_, rfl, _, rfl, c, D.c_Calendar, dc, _, _, rfl, hc, T.l_Calendar, T.n_Calendar_things, rfl, m.d, some (.ref a), rfl, (by rw [← hv]; exact DGet.k (k := Sum.inl id) hd), _, rfl, iteF ?_⟩
      refine ⟨_, rfl, c, D.c_Calendar, dc, _, _, rfl, hc, T.l_Calendar, T.n_Calendar_things, rfl, _, rfl, m.d, .ref a, rfl, (by rw [← hv]; exact DGet.k (k := Sum.inl id) hd), ?_⟩
      subst hid
      have hw := sw_lt s
      have hch := chn_thOf s
      have hrow := R.row (sw s) hw
      have hids := G.rowIds hw
      have hin : sid s ∈ cal.chainIds (sw s : Int) := by rw [chainIds_sp hw]; exact List.mem_map_of_mem (f := sid) (mem_all.mp hs)
      obtain ⟨b1, b2⟩ := before_at hin
      refine ⟨_, rfl, c, D.c_Calendar, dc, _, _, rfl, hc, T.l_Calendar, T.n_Calendar_chains, rfl, _, rfl, a, D.c_Thing, dx, _, _, rfl, ha, T.l_Thing, T.n_Thing_chain, rfl, m.l, _, _, .ref (m.ra (sw s)), rfl, rfl, SqL.of R.out, (by rw [hch]; exact at_rows hw), .inl ⟨rfl, _, SqL.of hrow⟩, ?_⟩
      refine ⟨_, rfl, m.ra (sw s), (m.row (sw s)).map V.int, .int (sidI s), ((cal.chainIds (sw s : Int)).takeWhile fun x => x != sid s).length, .int (sidI s), rfl, rfl, SqL.of hrow, rfl, all_flat _, ?_, by show ((sidI s) == sidI s) = true; simp, ?_, ?_⟩
      · rw [hids, List.map_map, List.getElem?_map, b1]; rfl
      · intro j z hj hz
        rw [hids, List.map_map] at hz
        obtain ⟨y, hy, rfl⟩ := get_map hz
        have := b2 j y hj hy
        show ((y : Int) == (sid s : Int)) = false
        simp; omega
      · refine ⟨_, rfl, a, D.c_Thing, dx, _, _, rfl, ha, T.l_Thing, T.n_Thing_chain, rfl, _, rfl, a, D.c_Thing, dx, _, _, rfl, ha, T.l_Thing, T.n_Thing_priority, rfl, _, rfl, a, D.c_Thing, dx, _, _, rfl, ha, T.l_Thing, T.n_Thing_holds, rfl, _, rfl, a, thOf s, rfl, ⟨dx, ha⟩, _, rfl, by show 6 ≤ sizeLine; decide, ?_⟩
        refine k.yes (cal := cal) (ans := [0, ((thOf s).chn : Int), (thOf s).pri, (thOf s).hol, (if (thOf s).chn = 1 then (thOf s).due else (thOf s).rst), ((((cal.chainIds (sw s : Int)).takeWhile fun x => x != sid s).length : Nat) : Int)]) ?_ ⟨R, G⟩ Kept.refl
        rw [st_where_ok e, where_eq, hch]; rfl

/-! ### chain, sizes -/
def sp_chain_ids (D : Ads) : Sp := sp_call1 D .chain
theorem ok_chain_ids (T : Txt K mg D) : FnOk P w K mg base CX0 1 D.f_chain_ids D.d_chain_ids ["calendar", "chain"] (sp_chain_ids D) := by
  refine T.F_chain_ids.ok sc_chain_ids (fun vs H Q E h => ?_) (fun cdv A outer s H vs Q E hr h => ?_)
  · obtain ⟨c, m, cal, x, rfl, _⟩ := h
    rfl
  · obtain ⟨c, m, cal, x, rfl, CA, k⟩ := h
    obtain ⟨dc, hc⟩ := CA.rep.cal
    refine ⟨_, pss_cons (ps_if (pt_not (pt_chain op_le op_le (pe_glob (v := .int (0)) rfl T.c_CURRENT ⟨_, rfl⟩) (pv 1) (pe_glob (v := .int (3)) rfl T.c_ASLEEP ⟨_, rfl⟩))) (pss_one (ps_ret (pe_lst (pa_cons (pe_glob (v := .int (-13)) rfl T.c_BAD_CHAIN ⟨_, rfl⟩) pa_nil)))) pss_nil)
      (pss_cons (ps_set (i := 2) sc_chain_ids.nd rfl (Or.inl rfl) (pe_ix ix_list (pe_fld (pv 0) rfl) (pv 1) (fun _ _ => rfl)))
      (pss_one (ps_ret (pe_op op_cat (pe_lst (pa_cons (pe_glob (v := .int (0)) rfl T.c_DONE ⟨_, rfl⟩) (pa_cons (pe_callB call_len_seq rfl T.n_len PySem.boot_len (pa_cons (pv 2) pa_nil)) pa_nil))) (pv 2))))), ?_⟩
    have bad : ¬ (0 ≤ x ∧ x ≤ 3) → ∀ p, H p = none → Q (.ref p) (upd H p (.lst [.int (-13)])) := fun hb => k.no CA (st_chain_no hb)
    refine ⟨_, rfl, _, _, rfl, rfl, _, rfl, iteD (fun h1 => ⟨_, _, rfl, rfl, _, rfl, ?_⟩) (fun h1 => ⟨_, rfl, iteT ⟨by decide, bad fun h => h1 h.1⟩⟩)⟩
    by_cases h2 : x ≤ 3
    case neg =>
      rw [decide_eq_false h2]
      exact iteT ⟨by decide, bad fun h => h2 h.2⟩
    rw [decide_eq_true h2]
    refine iteF ?_
    obtain ⟨v, rfl⟩ : ∃ v : Nat, x = (v : Int) := ⟨x.toNat, by omega⟩
    have hv : v < 4 := by omega
    have hrow := CA.rep.row v hv
    refine ⟨_, rfl, c, D.c_Calendar, dc, _, _, rfl, hc, T.l_Calendar, T.n_Calendar_chains, rfl, _, rfl, m.l, _, _, _, rfl, rfl, SqL.of CA.rep.out, at_rows hv, ?_⟩
    refine ⟨_, rfl, m.ra v, _, rfl, .inl (SqL.of hrow), (by show 2 ≤ sizeLine; decide), fun l hl => ?_⟩
    have L := CA.laid (o := .lst [.int 0, .int (((m.row v).map V.int).length : Nat)]) hl
    refine ⟨_, rfl, l, m.ra v, _, _, rfl, rfl, upd_same, L.1.rep.row v hv, ?_, ?_⟩
    · rw [List.length_map]
      have := CA.good.rowLen hv
      exact Nat.le_of_lt (smallLine (show 2 + _ ≤ 1000000 by omega))
    · refine k.cat (hd := [0, ((m.row v).length : Int)]) (tl := m.row v) ?_ L.1 L.2 (by rw [List.length_map]; rfl) rfl
      rw [st_chain_ok hv, nats_eq, CA.good.rowIds hv, List.length_map]; rfl
def sp_sizes (D : Ads) : Sp := sp_call0 D .sizes
theorem ok_sizes (T : Txt K mg D) : FnOk P w K mg base CX0 1 D.f_sizes D.d_sizes ["calendar"] (sp_sizes D) := by
  refine T.F_sizes.ok sc_sizes (fun vs H Q E h => ?_) (fun cdv A outer s H vs Q E hr h => ?_)
  · obtain ⟨c, m, cal, rfl, _⟩ := h
    rfl
  · obtain ⟨c, m, cal, rfl, CA, k⟩ := h
    obtain ⟨dc, hc⟩ := CA.rep.cal
    refine ⟨_, pss_one (ps_ret (pe_op op_cat (pe_lst (pa_cons (pe_glob (v := .int (0)) rfl T.c_DONE ⟨_, rfl⟩) (pa_cons (pe_fld (pv 0) rfl) pa_nil))) (pe_lc (own := [("ids", 1)]) (tt := tYes) (te := (tCB (fun xs H Q => ∃ p ys, xs = [V.ref p] ∧ (SqL K H p ys ∨ SqT K H p ys) ∧ Q (.int ys.length) H) (tCons (tVar 1) tNil))) rfl sc_sizes.nd (pi_list (pe_fld (pv 0) rfl)) (blkOk_by (by show blkC ["calendar", "ids"] (defScope s_sizes) _ _ = true; decide +kernel)) (by intros; exact pg_name (i := 1) sc_sizes.nd rfl (Or.inl rfl)) (by intros; exact pts_nil) (by intros; exact (pe_callB call_len_seq rfl T.n_len PySem.boot_len (pa_cons (pv 1) pa_nil)))))), ?_⟩
    refine ⟨_, rfl, c, D.c_Calendar, dc, _, _, rfl, hc, T.l_Calendar, T.n_Calendar_clock, rfl, (by show 2 ≤ sizeLine; decide), fun l hl => ?_⟩
    have L := CA.laid (o := .lst [.int 0, .int m.clock]) hl
    obtain ⟨dc1, hc1⟩ := L.1.rep.cal
    refine ⟨_, rfl, c, D.c_Calendar, dc1, _, _, rfl, hc1, T.l_Calendar, T.n_Calendar_chains, rfl, m.l, rfl, ⟨_, SqL.of L.1.rep.out⟩, fun p hp => ?_⟩
    generalize hH1 : upd H l (.lst [.int 0, .int m.clock]) = H1 at *
    have hl1 : H1 l = some (.lst [.int 0, .int m.clock]) := by rw [← hH1]; exact upd_same
    refine lc_list (xs := [V.ref (m.ra 0), .ref (m.ra 1), .ref (m.ra 2), .ref (m.ra 3)]) (fun i H' => H' = upd H1 p (.lst ((List.range i).map fun v => V.int ((m.row v).length : Nat)))) rfl ?_ ?_ ?_
    · rintro i H' _ rfl
      exact SqL.of (by rw [upd_ne (ne_of_none L.1.rep.out hp)]; exact L.1.rep.out)
    · rintro i x H' hx rfl
      have hi : i < 4 := (List.getElem?_eq_some_iff.mp hx).1
      have := CA.rep.rowAt hi hx
      subst this
      have hri := L.1.rep.row i hi
      refine ⟨rfl, ?_⟩
      simp only [tYes, ↓reduceIte]
      refine ⟨_, rfl, m.ra i, _, rfl, .inl (SqL.of (show upd H1 p _ (m.ra i) = _ by rw [upd_ne (ne_of_none hri hp)]; exact hri)), _, upd_same, ?_, ?_⟩
      · rw [List.length_map, List.length_range]
        exact small2000 (by omega)
      · rw [upd_upd, List.range_succ, List.map_append, List.length_map]; rfl
    · rintro H' rfl
      have L2 := L.1.laid (o := .lst ((List.range 4).map fun v => V.int ((m.row v).length : Nat))) hp
      have nlp : l ≠ p := ne_of_none hl1 hp
      refine ⟨l, p, _, _, rfl, rfl, (by rw [upd_ne nlp]; exact hl1), upd_same, (by show 6 ≤ sizeLine; decide), ?_⟩
      refine k.cat (hd := [0, m.clock]) (tl := [((m.row 0).length : Int), ((m.row 1).length : Int), ((m.row 2).length : Int), ((m.row 3).length : Int)]) ?_ L2.1 (L.2.trans L2.2) rfl rfl
      have ln : ∀ v, v < 4 → (m.row v).length = (sp cal v).length := fun v hv => by rw [CA.good.row v hv, List.length_map]
      rw [ln 0 (by decide), ln 1 (by decide), ln 2 (by decide), ln 3 (by decide), CA.good.clk]
      simp only [sp, List.length_map]
      rfl

/-! ### told -/
def tellT (t : Th) : List Int := if t.chn = 1 then [t.num, t.pri, t.due] else if t.chn = 2 then [t.num, t.pri, t.hol, t.rst] else [t.num, t.pri, t.hol]
def sp_told_thing (D : Ads) : Sp := fun vs H Q _ => ∃ a t, vs = [.ref a] ∧ ThAt D H a t ∧ ∀ p, H p = none → Q (.ref p) (upd H p (.lst ((tellT t).map V.int)))
theorem ok_told_thing (T : Txt K mg D) : FnOk P w K mg base CX0 1 D.f_told_thing D.d_told_thing ["thing"] (sp_told_thing D) := by
  refine T.F_told_thing.ok sc_told_thing (fun vs H Q E h => ?_) (fun cdv A outer s H vs Q E hr h => ?_)
  · obtain ⟨a, t, rfl, _⟩ := h
    rfl
  · obtain ⟨a, t, rfl, ⟨dx, ha⟩, k⟩ := h
    refine ⟨_, pss_cons (ps_if (pt_cmpR op_eq (pe_fld (pv 0) rfl) (pe_glob (v := .int (1)) rfl T.c_FUTURE ⟨_, rfl⟩) (nomark _)) (pss_one (ps_ret (pe_lst (pa_cons (pe_fld (pv 0) rfl) (pa_cons (pe_fld (pv 0) rfl) (pa_cons (pe_fld (pv 0) rfl) pa_nil)))))) pss_nil)
      (pss_cons (ps_if (pt_cmpR op_eq (pe_fld (pv 0) rfl) (pe_glob (v := .int (2)) rfl T.c_FROZEN ⟨_, rfl⟩) (nomark _)) (pss_one (ps_ret (pe_lst (pa_cons (pe_fld (pv 0) rfl) (pa_cons (pe_fld (pv 0) rfl) (pa_cons (pe_fld (pv 0) rfl) (pa_cons (pe_fld (pv 0) rfl) pa_nil))))))) pss_nil)
      (pss_one (ps_ret (pe_lst (pa_cons (pe_fld (pv 0) rfl) (pa_cons (pe_fld (pv 0) rfl) (pa_cons (pe_fld (pv 0) rfl) pa_nil))))))), ?_⟩
    unfold tellT at k
    refine ⟨_, rfl, a, D.c_Thing, dx, _, _, rfl, ha, T.l_Thing, T.n_Thing_chain, rfl, rfl, _, rfl, iteI (fun e => ?_) (fun e => ?_)⟩
    · rw [if_pos (by omega)] at k
      exact ⟨_, rfl, a, D.c_Thing, dx, _, _, rfl, ha, T.l_Thing, T.n_Thing_number, rfl, _, rfl, a, D.c_Thing, dx, _, _, rfl, ha, T.l_Thing, T.n_Thing_priority, rfl, _, rfl, a, D.c_Thing, dx, _, _, rfl, ha, T.l_Thing, T.n_Thing_due, rfl, by show 3 ≤ sizeLine; decide, k⟩
    rw [if_neg (by omega)] at k
    refine ⟨_, rfl, a, D.c_Thing, dx, _, _, rfl, ha, T.l_Thing, T.n_Thing_chain, rfl, rfl, _, rfl, iteI (fun e1 => ?_) (fun e1 => ?_)⟩
    · rw [if_pos (by omega)] at k
      exact ⟨_, rfl, a, D.c_Thing, dx, _, _, rfl, ha, T.l_Thing, T.n_Thing_number, rfl, _, rfl, a, D.c_Thing, dx, _, _, rfl, ha, T.l_Thing, T.n_Thing_priority, rfl, _, rfl, a, D.c_Thing, dx, _, _, rfl, ha, T.l_Thing, T.n_Thing_holds, rfl, _, rfl, a, D.c_Thing, dx, _, _, rfl, ha, T.l_Thing, T.n_Thing_rest, rfl, by show 4 ≤ sizeLine; decide, k⟩
    · rw [if_neg (by omega)] at k
      exact ⟨_, rfl, a, D.c_Thing, dx, _, _, rfl, ha, T.l_Thing, T.n_Thing_number, rfl, _, rfl, a, D.c_Thing, dx, _, _, rfl, ha, T.l_Thing, T.n_Thing_priority, rfl, _, rfl, a, D.c_Thing, dx, _, _, rfl, ha, T.l_Thing, T.n_Thing_holds, rfl, by show 3 ≤ sizeLine; decide, k⟩
def sp_told (D : Ads) : Sp := sp_call0 D .told
theorem ok_told (T : Txt K mg D) : FnOk P w K mg base CX0 2 D.f_told D.d_told ["calendar"] (sp_told D) := by
  refine T.F_told.ok sc_told (fun vs H Q E h => ?_) (fun cdv A outer s H vs Q E hr h => ?_)
  · obtain ⟨c, m, cal, rfl, _⟩ := h
    rfl
  · obtain ⟨c, m, cal, rfl, CA, k⟩ := h
    obtain ⟨dc, hc⟩ := CA.rep.cal
    refine ⟨_, pss_cons (ps_set (i := 1) sc_told.nd rfl (Or.inl rfl) (pe_lst (pa_cons (pe_fld (pv 0) rfl) pa_nil)))
      (pss_cons (ps_for PassesOwn.never rfl (pi_list (pe_fld (pv 0) rfl)) (pg_name (i := 2) sc_told.nd rfl (Or.inl rfl)) (pss_cons (ps_expr (pe_bm PySem.F.plainAttrs_list PySem.F.slot_list_append PySem.F.type_list_append mt_append (pv 1) (pa_cons (pe_callB call_len_seq rfl T.n_len PySem.boot_len (pa_cons (pv 2) pa_nil)) pa_nil)))
      (pss_one (ps_for PassesOwn.never rfl (pi_list (pv 2)) (pg_name (i := 3) sc_told.nd rfl (Or.inl rfl)) (pss_one (ps_expr (pe_bm PySem.F.plainAttrs_list PySem.F.slot_list_extend PySem.F.type_list_extend mt_extend (pv 1) (pa_cons (pe_call (ok_told_thing T) (hr.mono (by decide)) rfl T.g_told_thing T.F_told_thing.kp T.b_told_thing .nil pass0 (pa_cons (pe_dget (hu_of hr) (pe_fld (pv 0) rfl) (pv 3) (fun _ _ => rfl)) pa_nil)) pa_nil))))))))
      (pss_one (ps_ret (pe_op op_cat (pe_lst (pa_cons (pe_glob (v := .int (0)) rfl T.c_DONE ⟨_, rfl⟩) (pa_cons (pe_callB call_len_seq rfl T.n_len PySem.boot_len (pa_cons (pv 1) pa_nil)) pa_nil))) (pv 1))))), ?_⟩
    refine ⟨_, rfl, c, D.c_Calendar, dc, _, _, rfl, hc, T.l_Calendar, T.n_Calendar_clock, rfl, (by show 1 ≤ sizeLine; decide), fun q hq => ?_⟩
    have L := CA.laid (o := .lst [.int m.clock]) hq
    have nq := CA.rep.fresh hq
    obtain ⟨dc1, hc1⟩ := L.1.rep.cal
    refine ⟨_, rfl, c, D.c_Calendar, dc1, _, _, rfl, hc1, T.l_Calendar, T.n_Calendar_chains, rfl, m.l, rfl, ⟨_, SqL.of L.1.rep.out⟩, ?_⟩
    refine for_list (xs := [V.ref (m.ra 0), .ref (m.ra 1), .ref (m.ra 2), .ref (m.ra 3)]) (fun i σ H' => ∃ v2 v3, σ = [some (.ref c), some (.ref q), v2, v3] ∧ CalAt D H' c m cal ∧ Kept c m H m H' ∧ H' q = some (.lst ((parts cal i).map V.int)))
      ⟨none, none, rfl, L.1, L.2, by rw [upd_same, CA.good.clk]; rfl⟩ ?_ ?_ ?_
    · rintro i σ H' _ ⟨v2, v3, rfl, A1, K1, hq1⟩
      exact SqL.of A1.rep.out
    · rintro i x σ H' hx ⟨v2, v3, rfl, A1, K1, hq1⟩
      have hi : i < 4 := (List.getElem?_eq_some_iff.mp hx).1
      have := CA.rep.rowAt hi hx
      subst this
      have hri := A1.rep.row i hi
      have pl := parts_len CA.good.snd i (by omega)
      have hlen : (m.row i).length = (sp cal i).length := by rw [CA.good.row i hi, List.length_map]
      have hle := CA.good.rowLen hi
      refine ⟨_, rfl, .inl ⟨rfl, _, SqL.of hq1⟩, _, rfl, m.ra i, _, rfl, .inl (SqL.of hri), q, _, _, rfl, rfl, hq1, ?_, ?_⟩
      · rw [List.length_map]; exact smallLine (by omega)
      have A2 := A1.other (o := .lst ((parts cal i).map V.int ++ [.int (((m.row i).map V.int).length : Nat)])) nq
      have K2 : Kept c m H m (upd H' q (.lst ((parts cal i).map V.int ++ [.int (((m.row i).map V.int).length : Nat)]))) := fun b o e n => by
        have := K1 b o e n
        refine ⟨?_, n⟩
        rw [upd_ne (ne_of_none e hq)]; exact this.1
      refine ⟨_, rfl, m.ra i, rfl, ⟨_, SqL.of (A2.rep.row i hi)⟩, ?_⟩
      refine for_list (xs := (m.row i).map V.int) (fun j σ H' => ∃ v3, σ = [some (.ref c), some (.ref q), some (.ref (m.ra i)), v3] ∧ CalAt D H' c m cal ∧ Kept c m H m H' ∧ H' q = some (.lst ((parts cal i ++ ((sp cal i).length : Int) :: ((sp cal i).take j).flatMap tellS).map V.int)))
        ⟨_, rfl, A2, K2, ?_⟩ ?_ ?_ ?_
      · rw [upd_same, List.length_map, hlen, List.map_append]; rfl
      · rintro j σ H2 _ ⟨v3, rfl, A3, K3, hq3⟩
        exact SqL.of (A3.rep.row i hi)
      · rintro j x σ H2 hx ⟨v3, rfl, A3, K3, hq3⟩
        rw [CA.good.row i hi, List.map_map] at hx
        obtain ⟨s, hs, rfl⟩ := get_map hx
        have hj := (List.getElem?_eq_some_iff.mp hs).1
        obtain ⟨a, kvs, hg, hd, hv, ht⟩ := A3.thing (CA.good.thAt (List.mem_of_getElem? hs))
        obtain ⟨dc3, hc3⟩ := A3.rep.cal
        refine ⟨_, rfl, .inl ⟨rfl, _, SqL.of hq3⟩, _, rfl, c, D.c_Calendar, dc3, _, _, rfl, hc3, T.l_Calendar, T.n_Calendar_things, rfl, _, rfl, m.d, .ref a, rfl, (by rw [← hv]; exact DGet.k (k := Sum.inl (sidI s)) hd), a, thOf s, rfl, ht, fun p hp => ?_⟩
        have nqp : q ≠ p := ne_of_none hq3 hp
        have fl := flat_len ((sp cal i).take j)
        have tl := List.length_take_le j (sp cal i)
        have ts := tellS_len s
        have et : tellT (thOf s) = tellS s := (tellS_eq s).symm
        have A4 := A3.laid (o := .lst ((tellT (thOf s)).map V.int)) hp
        refine ⟨q, p, _, _, rfl, rfl, (by rw [upd_ne nqp]; exact hq3), upd_same, ?_, ?_⟩
        · simp only [List.length_map, List.length_append, List.length_cons, et]
          exact Nat.le_of_lt (smallLine (by omega))
        · refine ⟨_, rfl, A4.1.other nq, fun b o e n => ?_, ?_⟩
          · have h1 := (K3.trans A4.2) b o e n
            refine ⟨?_, n⟩
            rw [upd_ne (ne_of_none e hq)]; exact h1.1
          · rw [upd_same, flat_snoc hs, et, ← List.map_append, List.append_assoc, List.cons_append]
      · rintro σ H2 ⟨v3, rfl, A3, K3, hq3⟩
        refine ⟨_, _, rfl, A3, K3, ?_⟩
        rw [hq3, List.length_map, hlen, List.take_length]; rfl
    · rintro σ H' ⟨v2, v3, rfl, A1, K1, hq1⟩
      have hq1 : H' q = some (.lst ((parts cal 4).map V.int)) := hq1
      have pl := parts_len CA.good.snd 4 (by omega)
      refine ⟨_, rfl, q, _, rfl, .inl (SqL.of hq1), (by show 2 ≤ sizeLine; decide), fun l hl => ?_⟩
      have L2 := A1.laid (o := .lst [.int 0, .int (((parts cal 4).map V.int).length : Nat)]) hl
      refine ⟨_, rfl, l, q, _, _, rfl, rfl, upd_same, (by rw [upd_ne (ne_of_none hq1 hl)]; exact hq1), ?_, ?_⟩
      · show 2 + _ ≤ _
        rw [List.length_map]
        exact Nat.le_of_lt (smallLine (by omega))
      · refine k.cat (hd := [0, ((parts cal 4).length : Int)]) (tl := parts cal 4) ?_ L2.1 (K1.trans L2.2) (by rw [List.length_map]; rfl) rfl
        show (cal, 0 :: ((Vbdead.tell cal).length : Int) :: Vbdead.tell cal) = _
        rw [tell_parts]; rfl
end
end WP
end
section
set_option Elab.async false
set_option linter.all false
set_option maxRecDepth 100000
namespace WP
open PySem PySem.Spec PyProof.Rows L2 WM
section
variable {P : Program} {w : World} {K : PySem.W.Frag} {mg : Str → Option Value} {base : Heap} {D : Ads}
/-- the clock is another -/
theorem Rep.setClock {H : Hp} {c : Addr} {m : M} (R : Rep D H c m) (dc : Addr) (k : Int) :
    Rep D (upd H c (.ins D.c_Calendar dc (calF k m.d m.l))) c { m with clock := k } ∧ Kept c m H { m with clock := k } (upd H c (.ins D.c_Calendar dc (calF k m.d m.l))) := by
  obtain ⟨dc0, hc⟩ := R.cal
  obtain ⟨kvs, hd, k1, k2, k3⟩ := R.dic
  refine ⟨⟨⟨dc, upd_same⟩, ?_, fun v hv => ?_, R.inj, ⟨kvs, ?_, k1, k2, k3⟩, fun i a t e => ?_⟩, fun b o e n => ⟨?_, n⟩⟩
  · show upd H c _ m.l = _
    rw [upd_ne (ne_of R.out hc (by intro z; cases z))]; exact R.out
  · show upd H c _ (m.ra v) = _
    rw [upd_ne (ne_of (R.row v hv) hc (by intro z; cases z))]; exact R.row v hv
  · show upd H c _ m.d = _
    rw [upd_ne (ne_of hd hc (by intro z; cases z))]; exact hd
  · obtain ⟨⟨dy, ht⟩, q⟩ := R.thg i a t e
    exact ⟨⟨dy, by rw [upd_ne (ne_of ht hc (Ne.symm calF_ne_thF))]; exact ht⟩, q⟩
  · rw [upd_ne (fun z => n (.inl z))]; exact e
theorem cut_take (xs : List V) (k : Nat) : cutV xs none (some (k : Int)) = xs.take k := by
  unfold cutV
  rw [HT.sIx_none, HT.sIx_nat, List.drop_zero, Nat.sub_zero]
  by_cases h : k ≤ xs.length
  · rw [Nat.min_eq_left h]
  · rw [Nat.min_eq_right (by omega), List.take_of_length_le (Nat.le_refl _), List.take_of_length_le (by omega)]
theorem futLen {cal : Vbdead.Cal} {m : M} (G : Good cal m.clock m.row m.th m.n) : cal.future.length ≤ 2000 := by
  have := G.rowLen (w := 1) (by decide)
  rw [G.row1, List.length_map] at this; exact this

/-! ### least_due, waits_until -/
def sp_least_due (D : Ads) : Sp := fun vs H Q _ => ∃ c m cal d x r, vs = [.ref c] ∧ CalAt D H c m cal ∧ cal.future = (d, x) :: r ∧ Q (.int (d : Int)) H
theorem ok_least_due (T : Txt K mg D) : FnOk P w K mg base CX0 1 D.f_least_due D.d_least_due ["calendar"] (sp_least_due D) := by
  refine T.F_least_due.ok sc_least_due (fun vs H Q E h => ?_) (fun cdv A outer s H vs Q E hr h => ?_)
  · obtain ⟨c, m, cal, d, x, r, rfl, _⟩ := h
    rfl
  · obtain ⟨c, m, cal, d, x, r, rfl, CA, ef, k⟩ := h
    obtain ⟨dc, hc⟩ := CA.rep.cal
    have e1 := CA.good.row1
    have hm : (d, x) ∈ cal.future := by rw [ef]; exact List.mem_cons_self ..
    obtain ⟨a, kvs, hg, hd, hv, dx, ha⟩ := CA.thing (CA.good.thFut hm)
    refine ⟨_, pss_one (ps_ret (pe_fld (pe_dget (hu_of hr) (pe_fld (pv 0) rfl) (pe_ix ix_list (pe_ix ix_list (pe_fld (pv 0) rfl) (pe_glob (v := .int (1)) rfl T.c_FUTURE ⟨_, rfl⟩) (fun _ _ => rfl)) pe_int (fun _ _ => rfl)) (fun _ _ => rfl)) rfl)), ?_⟩
    exact ⟨_, rfl, c, D.c_Calendar, dc, _, _, rfl, hc, T.l_Calendar, T.n_Calendar_things, rfl, _, rfl, c, D.c_Calendar, dc, _, _, rfl, hc, T.l_Calendar, T.n_Calendar_chains, rfl, m.l, _, _, _, rfl, rfl, SqL.of CA.rep.out, at_rows (w := 1) (by decide),
      m.ra 1, _, _, .int (x.id : Int), rfl, rfl, SqL.of (CA.rep.row 1 (by decide)), atI_nat (j := 0) (by rw [e1, ef]; rfl), m.d, .ref a, rfl, (by rw [← hv]; exact DGet.k (k := Sum.inl (x.id : Int)) hd), a, D.c_Thing, dx, _, _, rfl, ha, T.l_Thing, T.n_Thing_due, rfl, k⟩
def dueB (cal : Vbdead.Cal) (t : Int) : Bool := match cal.due with
  | some d => decide ((d : Int) ≤ t)
  | none => false
def sp_waits_until (D : Ads) : Sp := fun vs H Q _ => ∃ c m cal, ∃ t : Int, vs = [.ref c, .int t] ∧ CalAt D H c m cal ∧ Q (.bl (dueB cal t)) H
theorem ok_waits_until (T : Txt K mg D) : FnOk P w K mg base CX0 2 D.f_waits_until D.d_waits_until ["calendar", "time"] (sp_waits_until D) := by
  refine T.F_waits_until.ok sc_waits_until (fun vs H Q E h => ?_) (fun cdv A outer s H vs Q E hr h => ?_)
  · obtain ⟨c, m, cal, t, rfl, _⟩ := h
    rfl
  · obtain ⟨c, m, cal, t, rfl, CA, k⟩ := h
    obtain ⟨dc, hc⟩ := CA.rep.cal
    have e1 := CA.good.row1
    refine ⟨_, pss_one (ps_ret (pe_and (pe_cmpR op_gt (pe_callB call_len_seq rfl T.n_len PySem.boot_len (pa_cons (pe_ix ix_list (pe_fld (pv 0) rfl) (pe_glob (v := .int (1)) rfl T.c_FUTURE ⟨_, rfl⟩) (fun _ _ => rfl)) pa_nil)) pe_int (nomark _)) (pe_one (pe_cmpR op_le (pe_call (ok_least_due T) (hr.mono (by decide)) rfl T.g_least_due T.F_least_due.kp T.b_least_due .nil pass0 (pa_cons (pv 0) pa_nil)) (pv 1) (nomark _))))), ?_⟩
    refine ⟨_, rfl, c, D.c_Calendar, dc, _, _, rfl, hc, T.l_Calendar, T.n_Calendar_chains, rfl, m.l, _, _, _, rfl, rfl, SqL.of CA.rep.out, at_rows (w := 1) (by decide), m.ra 1, _, rfl, .inl (SqL.of (CA.rep.row 1 (by decide))), _, _, rfl, rfl, _, rfl, iteD (fun h => ?_) (fun h => ?_)⟩
    · cases ef : cal.future with
      | nil => rw [List.length_map, e1, ef] at h; exact absurd h (by show ¬ (0 : Int) < ((0 : Nat) : Int); decide)
      | cons y r =>
        obtain ⟨d, x⟩ := y
        refine ⟨_, rfl, c, m, cal, d, x, r, rfl, CA, ef, _, rfl, _, _, rfl, rfl, ?_⟩
        unfold dueB at k
        rw [due_cons' ef] at k
        exact k
    · have ef : cal.future = [] := by
        rw [List.length_map, e1, List.length_map] at h
        exact List.eq_nil_of_length_eq_zero (by omega)
      unfold dueB at k
      rw [due_nil' ef] at k
      exact k

/-! ### ids_with_least_due -/
def sp_ids_with_least_due (D : Ads) : Sp := fun vs H Q _ => ∃ c m cal d x a b, vs = [.ref c] ∧ CalAt D H c m cal ∧ cal.future = (d, x) :: a ++ b ∧ (∀ y ∈ (d, x) :: a, y.1 = d) ∧ (∀ y ∈ b, d < y.1) ∧
  ∀ p, H p = none → Q (.ref p) (upd H p (.lst (((d, x) :: a).map fun y => V.int (y.2.id : Int))))
theorem ok_ids_with_least_due (T : Txt K mg D) : FnOk P w K mg base CX0 2 D.f_ids_with_least_due D.d_ids_with_least_due ["calendar"] (sp_ids_with_least_due D) := by
  refine T.F_ids_with_least_due.ok sc_ids_with_least_due (fun vs H Q E h => ?_) (fun cdv A outer s H vs Q E hr h => ?_)
  · obtain ⟨c, m, cal, d, x, a, b, rfl, _⟩ := h
    rfl
  · obtain ⟨c, m, cal, d, x, a, b, rfl, CA, ef, h1, h2, k⟩ := h
    obtain ⟨dc, hc⟩ := CA.rep.cal
    have e1 := CA.good.row1
    have hr1 := CA.rep.row 1 (by decide)
    have hmap : (m.row 1).map V.int = cal.future.map fun y => V.int (y.2.id : Int) := by rw [e1, List.map_map]; rfl
    rw [hmap] at hr1
    refine ⟨_, pss_cons (ps_set (i := 1) sc_ids_with_least_due.nd rfl (Or.inl rfl) (pe_ix ix_list (pe_fld (pv 0) rfl) (pe_glob (v := .int (1)) rfl T.c_FUTURE ⟨_, rfl⟩) (fun _ _ => rfl)))
      (pss_cons (ps_set (i := 2) sc_ids_with_least_due.nd rfl (Or.inl rfl) (pe_call (ok_least_due T) (hr.mono (by decide)) rfl T.g_least_due T.F_least_due.kp T.b_least_due .nil pass0 (pa_cons (pv 0) pa_nil)))
      (pss_cons (ps_set (i := 3) sc_ids_with_least_due.nd rfl (Or.inl rfl) pe_int)
      (pss_cons (ps_while PassesOwn.never (PW.pt (pw_and (pt_cmpR op_lt (pv 3) (pe_callB call_len_seq rfl T.n_len PySem.boot_len (pa_cons (pv 1) pa_nil)) (nomark _)) (pw_and1 (pt_cmpR op_eq (pe_fld (pe_dget (hu_of hr) (pe_fld (pv 0) rfl) (pe_ix ix_list (pv 1) (pv 3) (fun _ _ => rfl)) (fun _ _ => rfl)) rfl) (pv 2) (nomark _))))) (pss_one (ps_aug (i := 3) sc_ids_with_least_due.nd rfl (Or.inl rfl) pe_int ip_add)))
      (pss_one (ps_ret (pe_slice sl_list (pv 1) po_none (po_some (pv 3)))))))), ?_⟩
    refine ⟨_, rfl, c, D.c_Calendar, dc, _, _, rfl, hc, T.l_Calendar, T.n_Calendar_chains, rfl, m.l, _, _, _, rfl, rfl, SqL.of CA.rep.out, at_rows (w := 1) (by decide), ?_⟩
    refine ⟨_, rfl, c, m, cal, d, x, a ++ b, rfl, CA, ef, ?_⟩
    refine ⟨fun n σ H' => ∃ (i : Nat), n = ((d, x) :: a).length - i ∧ σ = [some (.ref c), some (.ref (m.ra 1)), some (.int (d : Int)), some (.int (i : Int))] ∧ H = H' ∧ i ≤ ((d, x) :: a).length, ⟨_, 0, rfl, rfl, rfl, Nat.zero_le _⟩, ?_⟩
    rintro n σ H' ⟨i, rfl, rfl, rfl, hi⟩
    have fin : i = ((d, x) :: a).length → ∀ p, H p = none → Q (.ref p) (upd H p (.lst (cutV (cal.future.map fun y => V.int (y.2.id : Int)) none (some (i : Int))))) := fun ei p hp => by
      rw [cut_take, ef, List.map_append, ei, List.take_append_of_le_length (by rw [List.length_map]; exact Nat.le_refl _), List.take_of_length_le (by rw [List.length_map]; exact Nat.le_refl _)]
      exact k p hp
    refine ⟨_, rfl, _, rfl, m.ra 1, _, rfl, .inl (SqL.of hr1), _, _, rfl, rfl, _, rfl, iteD (fun hlt => ?_) (fun hge => ?_)⟩
    · have hlt : i < cal.future.length := by rw [List.length_map] at hlt; omega
      obtain ⟨y, hy⟩ : ∃ y, cal.future[i]? = some y := ⟨_, List.getElem?_eq_getElem hlt⟩
      obtain ⟨ay, kvs, hg, hd, hv, dx, ha⟩ := CA.thing (CA.good.thFut (List.mem_of_getElem? hy))
      refine ⟨_, rfl, c, D.c_Calendar, dc, _, _, rfl, hc, T.l_Calendar, T.n_Calendar_things, rfl, _, rfl, _, rfl, m.ra 1, _, _, .int (y.2.id : Int), rfl, rfl, SqL.of hr1, atI_nat (j := i) (by rw [List.getElem?_map, hy]; rfl), m.d, .ref ay, rfl, (by rw [← hv]; exact DGet.k (k := Sum.inl (y.2.id : Int)) hd), ay, D.c_Thing, dx, _, _, rfl, ha, T.l_Thing, T.n_Thing_due, rfl, _, rfl, rfl, _, rfl, iteI (fun e => ?_) (fun e => ?_)⟩
      · have e : y.1 = d := by
          have e : (y.1 : Int) = (d : Int) := e
          omega
        have hlt2 : i < ((d, x) :: a).length := by
          by_cases z : i < ((d, x) :: a).length
          · exact z
          · rw [ef, List.getElem?_append_right (by omega)] at hy
            have := h2 y (List.mem_of_getElem? hy)
            omega
        refine ⟨fun σ' H'' => ∃ n', n' < ((d, x) :: a).length - i ∧ ∃ (i : Nat), n' = ((d, x) :: a).length - i ∧ σ' = [some (.ref c), some (.ref (m.ra 1)), some (.int (d : Int)), some (.int (i : Int))] ∧ H = H'' ∧ i ≤ ((d, x) :: a).length, fun _ _ h => h, ?_⟩
        exact ⟨_, rfl, _, _, rfl, rfl, _, by omega, i + 1, rfl, rfl, rfl, hlt2⟩
      · have ei : i = ((d, x) :: a).length := by
          by_cases z : i < ((d, x) :: a).length
          · rw [ef, List.getElem?_append_left z] at hy
            have := h1 y (List.mem_of_getElem? hy)
            exact absurd (show (y.1 : Int) = (d : Int) by rw [this]) e
          · omega
        exact ⟨_, rfl, _, rfl, _, rfl, m.ra 1, _, rfl, SqL.of hr1, fin ei⟩
    · have ei : i = ((d, x) :: a).length := by
        have : ((d, x) :: a).length ≤ cal.future.length := by rw [ef, List.length_append]; omega
        rw [List.length_map] at hge; omega
      exact iteF ⟨_, rfl, _, rfl, _, rfl, m.ra 1, _, rfl, SqL.of hr1, fin ei⟩

/-! ### make_turn -/
/-- the first i of l gone over to the current chain -/
def popC (cal : Vbdead.Cal) (d : Nat) (l b : List (Nat × Vbdead.Item)) (i : Nat) : Vbdead.Cal := { cal with clock := d, current := Vbdead.allIn (l.take i) cal.current, future := l.drop i ++ b }
def sp_make_turn (D : Ads) : Sp := fun vs H Q _ => ∃ c m cal r, vs = [.ref c] ∧ CalAt D H c m cal ∧ Vbdead.turned cal = some r ∧ (∀ d, cal.due = some d → d ≤ 1000000000000000) ∧
  ∀ H' m' p, CalAt D H' c m' r.1 → Kept c m H m' H' → H' p = some (.lst ((r.2.map Int.ofNat).map V.int)) → ¬ m'.owns c p → (∀ b o, H b = some o → b ≠ p) → Q (.ref p) H'
theorem ok_make_turn (T : Txt K mg D) : FnOk P w K mg base CX0 6 D.f_make_turn D.d_make_turn ["calendar"] (sp_make_turn D) := by
  refine T.F_make_turn.ok sc_make_turn (fun vs H Q E h => ?_) (fun cdv A outer s H vs Q E hr h => ?_)
  · obtain ⟨c, m, cal, r, rfl, _⟩ := h
    rfl
  · obtain ⟨c, m, cal, r, rfl, CA, et, he, k⟩ := h
    cases ef0 : cal.future with
    | nil => unfold Vbdead.turned at et; rw [ef0] at et; cases et
    | cons y l =>
    obtain ⟨d, x⟩ := y
    obtain ⟨a, b, ef, h1, h2⟩ := fut_parts CA.good.snd ef0
    have hd := he d (due_cons' ef0)
    rw [turned_eq (a := (d, x) :: a) ef (by simp) h1 (fun y hy => by have := h2 y hy; omega)] at et
    have et := Option.some.inj et
    subst et
    refine ⟨_, pss_cons (ps_set (i := 1) sc_make_turn.nd rfl (Or.inl rfl) (pe_call (ok_ids_with_least_due T) (hr.mono (by decide)) rfl T.g_ids_with_least_due T.F_ids_with_least_due.kp T.b_ids_with_least_due .nil pass0 (pa_cons (pv 0) pa_nil)))
      (pss_cons (ps_fld (pv 0) (pe_call (ok_least_due T) (hr.mono (by decide)) rfl T.g_least_due T.F_least_due.kp T.b_least_due .nil pass0 (pa_cons (pv 0) pa_nil)) rfl)
      (pss_cons (ps_for PassesOwn.never rfl (pi_list (pv 1)) (pg_name (i := 2) sc_make_turn.nd rfl (Or.inl rfl)) (pss_one (ps_expr (pe_call (ok_move_to_current T) (hr.mono (by decide)) rfl T.g_move_to_current T.F_move_to_current.kp T.b_move_to_current .nil pass0 (pa_cons (pv 0) (pa_cons (pe_dget (hu_of hr) (pe_fld (pv 0) rfl) (pv 2) (fun _ _ => rfl)) pa_nil))))))
      (pss_one (ps_ret (pv 1))))), ?_⟩
    refine ⟨_, rfl, c, m, cal, d, x, a, b, rfl, CA, ef, h1, h2, fun p hp => ?_⟩
    have L := CA.laid (o := .lst (((d, x) :: a).map fun y => V.int (y.2.id : Int))) hp
    have np := CA.rep.fresh hp
    obtain ⟨dc1, hc1⟩ := L.1.rep.cal
    refine ⟨_, rfl, c, m, cal, d, x, a ++ b, rfl, L.1, ef, _, rfl, c, D.c_Calendar, dc1, _, rfl, hc1, T.l_Calendar, T.n_Calendar_clock, (by show 3 < 1000; decide), ?_⟩
    have R2 := L.1.rep.setClock dc1 (d : Int)
    have hok := CA.good.snd.fut_ok (x := (d, x)) (by rw [ef0]; exact List.mem_cons_self ..)
    have G2 : Good (popC cal d ((d, x) :: a) b 0) (d : Int) m.row m.th m.n := by
      have := CA.good.leap (t := d) hok.2.2.1 hd (fut_head_least CA.good.snd ef0)
      have e : popC cal d ((d, x) :: a) b 0 = { cal with clock := d } := by
        unfold popC
        rw [List.take_zero, List.drop_zero, ← ef]; rfl
      rw [e]; exact this
    show ∃ _, _
    generalize hH2 : upd (upd H p (.lst (((d, x) :: a).map fun y => V.int (y.2.id : Int)))) c (.ins D.c_Calendar dc1 (putF "clock" (.int (d : Int)) (calF m.clock m.d m.l))) = H2
    have R2' : Rep D H2 c { m with clock := (d : Int) } ∧ Kept c m (upd H p (.lst (((d, x) :: a).map fun y => V.int (y.2.id : Int)))) { m with clock := (d : Int) } H2 := by rw [← hH2]; exact R2
    have hp2 := R2'.2 p _ upd_same np
    refine ⟨_, rfl, p, rfl, ⟨_, SqL.of hp2.1⟩, ?_⟩
    refine for_list (xs := ((d, x) :: a).map fun y => V.int (y.2.id : Int)) (fun i σ H' => ∃ v2 m', σ = [some (.ref c), some (.ref p), v2] ∧ CalAt D H' c m' (popC cal d ((d, x) :: a) b i) ∧ Kept c { m with clock := (d : Int) } H2 m' H')
      ⟨none, { m with clock := (d : Int) }, rfl, ⟨R2'.1, G2⟩, Kept.refl⟩ ?_ ?_ ?_
    · rintro i σ H' _ ⟨v2, m', rfl, A1, K1⟩
      exact SqL.of (K1 p _ hp2.1 hp2.2).1
    · rintro i v σ H' hx ⟨v2, m', rfl, A1, K1⟩
      obtain ⟨y, hy, rfl⟩ := get_map hx
      have hyd := h1 y (List.mem_of_getElem? hy)
      obtain ⟨yd, yi⟩ := y
      have hyd : yd = d := hyd
      subst hyd
      have hil := (List.getElem?_eq_some_iff.mp hy).1
      have ed : ((yd, x) :: a).drop i = (yd, yi) :: ((yd, x) :: a).drop (i + 1) := by
        rw [List.drop_eq_getElem_cons hil]
        have := (List.getElem?_eq_some_iff.mp hy).2
        rw [this]
      have efi : (popC cal yd ((yd, x) :: a) b i).future = (yd, yi) :: (((yd, x) :: a).drop (i + 1) ++ b) := by
        show ((yd, x) :: a).drop i ++ b = _
        rw [ed]; rfl
      have hmem : fut (yd, yi) ∈ sp (popC cal yd ((yd, x) :: a) b i) 1 := by
        show fut (yd, yi) ∈ ((popC cal yd ((yd, x) :: a) b i).future).map fut
        rw [efi]; exact List.mem_cons_self ..
      obtain ⟨ay, kvs, hg, hdd, hv, dx, ha⟩ := A1.thing (A1.good.thAt hmem)
      obtain ⟨dc3, hc3⟩ := A1.rep.cal
      refine ⟨_, rfl, _, rfl, c, D.c_Calendar, dc3, _, _, rfl, hc3, T.l_Calendar, T.n_Calendar_things, rfl, _, rfl, m'.d, .ref ay, rfl, (by rw [← hv]; exact DGet.k (k := Sum.inl (yi.id : Int)) hdd), c, m', ay, popC cal yd ((yd, x) :: a) b i, fut (yd, yi), thOf (fut (yd, yi)), yi, rfl,
        Good.movable A1.rep A1.good (spot_of_mem A1.good.snd.nd (mem_all_of hmem)) hg, fun H3 m3 A3 K3 => ⟨_, m3, rfl, ?_, K1.trans K3⟩⟩
      have e3 : ((popC cal yd ((yd, x) :: a) b i).without (sid (fut (yd, yi)))).onCurrent yi = popC cal yd ((yd, x) :: a) b (i + 1) := by
        rw [show sid (fut (yd, yi)) = yi.id from rfl, pop_head A1.good.snd efi]
        unfold popC
        have : Vbdead.allIn (((yd, x) :: a).take (i + 1)) cal.current = Vbdead.putCurrent yi (Vbdead.allIn (((yd, x) :: a).take i) cal.current) := by
          rw [take_snoc hy]
          unfold Vbdead.allIn
          rw [List.foldl_append]; rfl
        rw [this]
      rw [← e3]; exact A3
    · rintro σ H' ⟨v2, m', rfl, A1, K1⟩
      have hp3 := K1 p _ hp2.1 hp2.2
      have ep : popC cal d ((d, x) :: a) b (((d, x) :: a).map fun y => V.int (y.2.id : Int)).length = { cal with clock := d, current := Vbdead.allIn ((d, x) :: a) cal.current, future := b } := by
        unfold popC
        rw [List.length_map, List.take_length, List.drop_length]; rfl
      rw [ep] at A1
      refine ⟨_, rfl, k H' m' p A1 (L.2.trans (R2'.2.trans K1)) ?_ hp3.2 (fun b o e => ne_of_none e hp)⟩
      rw [hp3.1, List.map_map, List.map_map]; rfl

/-! ### turn -/
theorem turned_ids_len {cal : Vbdead.Cal} {r : Vbdead.Cal × List Nat} (e : Vbdead.turned cal = some r) : r.2.length + r.1.future.length = cal.future.length := by
  unfold Vbdead.turned at e
  cases ef : cal.future with
  | nil => rw [ef] at e; cases e
  | cons y l =>
    obtain ⟨d, x⟩ := y
    rw [ef] at e
    cases e
    show ((((d, x) :: l).filter fun y => y.1 == d).map fun y => y.2.id).length + (((d, x) :: l).filter fun y => y.1 != d).length = _
    rw [List.length_map]
    have : ∀ l : List (Nat × Vbdead.Item), (l.filter fun y => y.1 == d).length + (l.filter fun y => y.1 != d).length = l.length := by
      intro l
      induction l with
      | nil => rfl
      | cons z l ih =>
        by_cases q : z.1 = d
        · rw [List.filter_cons_of_pos (by simpa using q), List.filter_cons_of_neg (by simpa using q), List.length_cons, List.length_cons]; omega
        · rw [List.filter_cons_of_neg (by simpa using q), List.filter_cons_of_pos (by simpa using q), List.length_cons, List.length_cons]; omega
    exact this _
def sp_turn (D : Ads) : Sp := sp_call0 D .turn
theorem ok_turn (T : Txt K mg D) : FnOk P w K mg base CX0 7 D.f_turn D.d_turn ["calendar"] (sp_turn D) := by
  refine T.F_turn.ok sc_turn (fun vs H Q E h => ?_) (fun cdv A outer s H vs Q E hr h => ?_)
  · obtain ⟨c, m, cal, rfl, _⟩ := h
    rfl
  · obtain ⟨c, m, cal, rfl, CA, k⟩ := h
    obtain ⟨dc, hc⟩ := CA.rep.cal
    have e1 := CA.good.row1
    refine ⟨_, pss_cons (ps_if (pt_cmpR op_eq (pe_callB call_len_seq rfl T.n_len PySem.boot_len (pa_cons (pe_ix ix_list (pe_fld (pv 0) rfl) (pe_glob (v := .int (1)) rfl T.c_FUTURE ⟨_, rfl⟩) (fun _ _ => rfl)) pa_nil)) pe_int (nomark _)) (pss_one (ps_ret (pe_lst (pa_cons (pe_glob (v := .int (-11)) rfl T.c_NOTHING_IS_DUE ⟨_, rfl⟩) pa_nil)))) pss_nil)
      (pss_cons (ps_if (pt_cmpR op_gt (pe_call (ok_least_due T) (hr.mono (by decide)) rfl T.g_least_due T.F_least_due.kp T.b_least_due .nil pass0 (pa_cons (pv 0) pa_nil)) (pe_glob (v := .int (1000000000000000)) rfl T.c_END ⟨_, rfl⟩) (nomark _)) (pss_one (ps_ret (pe_lst (pa_cons (pe_glob (v := .int (-12)) rfl T.c_TOO_LATE ⟨_, rfl⟩) pa_nil)))) pss_nil)
      (pss_cons (ps_set (i := 1) sc_turn.nd rfl (Or.inl rfl) (pe_call (ok_make_turn T) (hr.mono (by decide)) rfl T.g_make_turn T.F_make_turn.kp T.b_make_turn .nil pass0 (pa_cons (pv 0) pa_nil)))
      (pss_one (ps_ret (pe_op op_cat (pe_lst (pa_cons (pe_glob (v := .int (0)) rfl T.c_DONE ⟨_, rfl⟩) (pa_cons (pe_fld (pv 0) rfl) (pa_cons (pe_callB call_len_seq rfl T.n_len PySem.boot_len (pa_cons (pv 1) pa_nil)) pa_nil)))) (pv 1)))))), ?_⟩
    refine ⟨_, rfl, c, D.c_Calendar, dc, _, _, rfl, hc, T.l_Calendar, T.n_Calendar_chains, rfl, m.l, _, _, _, rfl, rfl, SqL.of CA.rep.out, at_rows (w := 1) (by decide), m.ra 1, _, rfl, .inl (SqL.of (CA.rep.row 1 (by decide))), rfl, _, rfl, iteI (fun h => ?_) (fun h => ?_)⟩
    · have ef : cal.future = [] := by
        rw [List.length_map, e1, List.length_map] at h
        exact List.eq_nil_of_length_eq_zero (by omega)
      exact ⟨by decide, k.no CA (st_turn_no ef)⟩
    cases ef : cal.future with
    | nil => rw [List.length_map, e1, ef] at h; exact absurd rfl h
    | cons y l =>
    obtain ⟨d, x⟩ := y
    have ed := due_cons' ef
    refine ⟨_, rfl, c, m, cal, d, x, l, rfl, CA, ef, _, _, rfl, rfl, _, rfl, iteD (fun h2 => ?_) (fun h2 => ?_)⟩
    · exact ⟨by decide, k.no CA (st_turn_late ed (by omega))⟩
    obtain ⟨r, et⟩ := turned_some ed
    have hl := turned_ids_len et
    have hfl := futLen CA.good
    refine ⟨_, rfl, c, m, cal, r, rfl, CA, et, (fun d' q => by rw [ed] at q; cases q; omega), fun H1 m1 p A1 K1 hp no fr => ?_⟩
    obtain ⟨dc1, hc1⟩ := A1.rep.cal
    refine ⟨_, rfl, c, D.c_Calendar, dc1, _, _, rfl, hc1, T.l_Calendar, T.n_Calendar_clock, rfl, _, rfl, p, _, rfl, .inl (SqL.of hp), (by show 3 ≤ sizeLine; decide), fun q hq => ?_⟩
    have L := A1.laid (o := .lst [.int 0, .int m1.clock, .int (((r.2.map Int.ofNat).map V.int).length : Nat)]) hq
    refine ⟨_, rfl, q, p, _, _, rfl, rfl, upd_same, (by rw [upd_ne (ne_of_none hp hq)]; exact hp), ?_, ?_⟩
    · rw [List.length_map, List.length_map]
      exact Nat.le_of_lt (smallLine (show 3 + _ ≤ 1000000 by omega))
    · refine k.cat (hd := [0, m1.clock, (r.2.length : Int)]) (tl := r.2.map Int.ofNat) ?_ L.1 (K1.trans L.2) (by rw [List.length_map, List.length_map]; rfl) rfl
      rw [st_turn_ok ed (by omega) et, A1.good.clk]; rfl

/-! ### until -/
def sp_until (D : Ads) : Sp := sp_call1 D .until_
theorem ok_until (T : Txt K mg D) : FnOk P w K mg base CX0 7 D.f_until D.d_until ["calendar", "time"] (sp_until D) := by
  refine T.F_until.ok sc_until (fun vs H Q E h => ?_) (fun cdv A outer s H vs Q E hr h => ?_)
  · obtain ⟨c, m, cal, x, rfl, _⟩ := h
    rfl
  · obtain ⟨c, m, cal, x, rfl, CA, k⟩ := h
    obtain ⟨dc, hc⟩ := CA.rep.cal
    have hclk := CA.good.clk
    have hfl := futLen CA.good
    refine ⟨_, pss_cons (ps_if (pt_not (pt_chain op_le op_le (pe_fld (pv 0) rfl) (pv 1) (pe_glob (v := .int (1000000000000000)) rfl T.c_END ⟨_, rfl⟩))) (pss_one (ps_ret (pe_lst (pa_cons (pe_glob (v := .int (-6)) rfl T.c_BAD_TIME ⟨_, rfl⟩) pa_nil)))) pss_nil)
      (pss_cons (ps_set (i := 2) sc_until.nd rfl (Or.inl rfl) pe_int)
      (pss_cons (ps_set (i := 3) sc_until.nd rfl (Or.inl rfl) (pe_lst pa_nil))
      (pss_cons (ps_while PassesOwn.never (pt_val (pe_call (ok_waits_until T) (hr.mono (by decide)) rfl T.g_waits_until T.F_waits_until.kp T.b_waits_until .nil pass0 (pa_cons (pv 0) (pa_cons (pv 1) pa_nil)))) (pss_cons (ps_expr (pe_bm PySem.F.plainAttrs_list PySem.F.slot_list_extend PySem.F.type_list_extend mt_extend (pv 3) (pa_cons (pe_call (ok_make_turn T) (hr.mono (by decide)) rfl T.g_make_turn T.F_make_turn.kp T.b_make_turn .nil pass0 (pa_cons (pv 0) pa_nil)) pa_nil)))
      (pss_one (ps_aug (i := 2) sc_until.nd rfl (Or.inl rfl) pe_int ip_add))))
      (pss_cons (ps_fld (pv 0) (pv 1) rfl)
      (pss_one (ps_ret (pe_op op_cat (pe_lst (pa_cons (pe_glob (v := .int (0)) rfl T.c_DONE ⟨_, rfl⟩) (pa_cons (pv 2) (pa_cons (pe_callB call_len_seq rfl T.n_len PySem.boot_len (pa_cons (pv 3) pa_nil)) pa_nil)))) (pv 3)))))))), ?_⟩
    have bad : ¬ ((cal.clock : Int) ≤ x ∧ x ≤ 1000000000000000) → ∀ p, H p = none → Q (.ref p) (upd H p (.lst [.int (-6)])) := fun hb => k.no CA (st_until_no hb)
    refine ⟨_, rfl, c, D.c_Calendar, dc, _, _, rfl, hc, T.l_Calendar, T.n_Calendar_clock, rfl, _, rfl, _, _, rfl, rfl, _, rfl, iteD (fun h1 => ⟨_, _, rfl, rfl, _, rfl, ?_⟩) (fun h1 => ⟨_, rfl, iteT ⟨by decide, bad fun h => h1 (by rw [hclk]; exact h.1)⟩⟩)⟩
    by_cases h2 : x ≤ 1000000000000000
    case neg =>
      rw [decide_eq_false h2]
      exact iteT ⟨by decide, bad fun h => h2 h.2⟩
    rw [decide_eq_true h2]
    refine iteF ?_
    obtain ⟨t, rfl⟩ : ∃ t : Nat, x = (t : Int) := ⟨x.toNat, by omega⟩
    have ht1 : cal.clock ≤ t := by rw [hclk] at h1; omega
    have ht2 : t ≤ 1000000000000000 := by omega
    have ek := st_until_ok (c := cal) ⟨ht1, ht2⟩
    refine ⟨Nat.zero_le _, fun q hq => ?_⟩
    have L := CA.laid (o := .lst []) hq
    have nq := CA.rep.fresh hq
    refine ⟨fun n σ H' => ∃ (j : Nat) (ci : Vbdead.Cal) (m' : M) (cm : List Nat) (f : Nat), n = ci.future.length ∧ σ = [some (.ref c), some (.int (t : Int)), some (.int (j : Int)), some (.ref q)] ∧ CalAt D H' c m' ci ∧ Kept c m H m' H' ∧ H' q = some (.lst ((cm.map Int.ofNat).map V.int)) ∧ ¬ m'.owns c q ∧
      ci.future.length ≤ f ∧ ci.clock ≤ t ∧ cm.length + ci.future.length ≤ 2000 ∧ Vbdead.turnsTo t cal.future.length cal = ((Vbdead.turnsTo t f ci).1, (Vbdead.turnsTo t f ci).2.1 + j, cm ++ (Vbdead.turnsTo t f ci).2.2),
      ⟨_, 0, cal, m, [], cal.future.length, rfl, rfl, L.1, L.2, upd_same, nq, Nat.le_refl _, ht1, by simpa using hfl, rfl⟩, ?_⟩
    rintro n σ H' ⟨j, ci, m', cm, f, rfl, rfl, A1, K1, hq1, no1, hf, hck, hsz, eT⟩
    refine ⟨_, rfl, _, rfl, c, m', ci, (t : Int), rfl, A1, _, rfl, ?_⟩
    cases hB : dueB ci (t : Int) with
    | true =>
      refine iteT ?_
      obtain ⟨d, ed, hdt⟩ : ∃ d, ci.due = some d ∧ d ≤ t := by
        unfold dueB at hB
        cases e : ci.due with
        | none => rw [e] at hB; cases hB
        | some d => rw [e] at hB; exact ⟨d, rfl, by have := of_decide_eq_true hB; omega⟩
      obtain ⟨r, et⟩ := turned_some ed
      have hl := turned_ids_len et
      have hlt := turned_len et
      refine ⟨fun σ' H'' => ∃ n', n' < ci.future.length ∧ ∃ (j : Nat) (ci : Vbdead.Cal) (m' : M) (cm : List Nat) (f : Nat), n' = ci.future.length ∧ σ' = [some (.ref c), some (.int (t : Int)), some (.int (j : Int)), some (.ref q)] ∧ CalAt D H'' c m' ci ∧ Kept c m H m' H'' ∧ H'' q = some (.lst ((cm.map Int.ofNat).map V.int)) ∧ ¬ m'.owns c q ∧
        ci.future.length ≤ f ∧ ci.clock ≤ t ∧ cm.length + ci.future.length ≤ 2000 ∧ Vbdead.turnsTo t cal.future.length cal = ((Vbdead.turnsTo t f ci).1, (Vbdead.turnsTo t f ci).2.1 + j, cm ++ (Vbdead.turnsTo t f ci).2.2), fun _ _ h => h, ?_⟩
      refine ⟨_, rfl, .inl ⟨rfl, _, SqL.of hq1⟩, _, rfl, c, m', ci, r, rfl, A1, et, (fun d' z => by rw [ed] at z; cases z; omega), fun H2 m2 p A2 K2 hp2 no2 fr2 => ?_⟩
      have hq2 := K2 q _ hq1 no1
      refine ⟨q, p, _, _, rfl, rfl, hq2.1, hp2, ?_, ?_⟩
      · simp only [List.length_map]
        exact Nat.le_of_lt (smallLine (by omega))
      cases f with
      | zero => omega
      | succ f =>
      rw [turnsTo_go ed et hdt] at eT
      refine ⟨_, rfl, _, _, rfl, rfl, r.1.future.length, hlt, j + 1, r.1, m2, cm ++ r.2, f, rfl, rfl, A2.other hq2.2, fun b o e nb => ?_, ?_, hq2.2, by omega, ?_, ?_, ?_⟩
      · have z := (K1.trans K2) b o e nb
        refine ⟨?_, z.2⟩
        rw [upd_ne (ne_of_none e hq)]; exact z.1
      · rw [upd_same, List.map_append, List.map_append]
      · rw [turned_clock ed et]; exact hdt
      · rw [List.length_append]; omega
      · rw [eT]
        refine Prod.ext rfl (Prod.ext ?_ ?_)
        · show _ + 1 + j = _ + (j + 1)
          omega
        · show cm ++ (r.2 ++ _) = cm ++ r.2 ++ _
          rw [List.append_assoc]
    | false =>
      refine iteF ?_
      have hno : ∀ d, ci.due = some d → t < d := fun d ed => by
        unfold dueB at hB
        rw [ed] at hB
        have := of_decide_eq_false hB
        omega
      rw [turnsTo_stop hno] at eT
      obtain ⟨dc1, hc1⟩ := A1.rep.cal
      refine ⟨_, rfl, _, rfl, c, D.c_Calendar, dc1, _, rfl, hc1, T.l_Calendar, T.n_Calendar_clock, (by show 3 < 1000; decide), ?_⟩
      have R2 := A1.rep.setClock dc1 (t : Int)
      have hq2 := R2.2 q _ hq1 no1
      have G2 := A1.good.leap (t := t) hck ht2 (fun y hy => by
        cases ef : ci.future with
        | nil => rw [ef] at hy; cases hy
        | cons z l =>
          obtain ⟨d', x'⟩ := z
          have z1 := hno d' (due_cons' ef)
          have z2 := fut_head_least A1.good.snd ef y hy
          omega)
      show ∃ _, _
      generalize hH2 : upd H' c (.ins D.c_Calendar dc1 (putF "clock" (.int (t : Int)) (calF m'.clock m'.d m'.l))) = H2
      have R2' : Rep D H2 c { m' with clock := (t : Int) } ∧ Kept c m' H' { m' with clock := (t : Int) } H2 := by rw [← hH2]; exact R2
      have hq3 := R2'.2 q _ hq1 no1
      have A2 : CalAt D H2 c { m' with clock := (t : Int) } { ci with clock := t } := ⟨R2'.1, G2⟩
      refine ⟨_, rfl, _, rfl, q, _, rfl, .inl (SqL.of hq3.1), (by show 3 ≤ sizeLine; decide), fun l hl => ?_⟩
      have L3 := A2.laid (o := .lst [.int 0, .int (j : Int), .int (((cm.map Int.ofNat).map V.int).length : Nat)]) hl
      refine ⟨_, rfl, l, q, _, _, rfl, rfl, upd_same, (by rw [upd_ne (ne_of_none hq3.1 hl)]; exact hq3.1), ?_, ?_⟩
      · rw [List.length_map, List.length_map]
        exact Nat.le_of_lt (smallLine (show 3 + _ ≤ 1000000 by omega))
      · refine k.cat (hd := [0, (j : Int), (cm.length : Int)]) (tl := cm.map Int.ofNat) ?_ L3.1 (K1.trans (R2'.2.trans L3.2)) (by rw [List.length_map, List.length_map]; rfl) rfl
        rw [ek, eT, nats_eq, List.append_nil, Nat.zero_add]; rfl

/-! ### slip -/
theorem nodup_take {l : List Int} {i : Nat} {x : Int} (nd : l.Nodup) (h : l[i]? = some x) : x ∉ l.take i := fun z => by
  obtain ⟨j, hj, e⟩ := List.getElem_of_mem z
  rw [List.length_take] at hj
  have hj' : j < i := by omega
  have e' : l[j]? = some x := by
    rw [List.getElem_take] at e
    rw [List.getElem?_eq_getElem (by omega), e]
  exact pw_get (R := fun a b => a ≠ b) nd hj' e' h rfl
theorem Good.row_nd {cal : Vbdead.Cal} {m : M} (G : Good cal m.clock m.row m.th m.n) {w : Nat} (hw : w < 4) : (m.row w).Nodup := by
  rw [G.row w hw]
  have h := nd_row G.snd.nd w
  have h : ((sp cal w).map sid).Pairwise (· ≠ ·) := h
  rw [List.pairwise_map] at h
  show ((sp cal w).map sidI).Pairwise (· ≠ ·)
  rw [List.pairwise_map]
  exact h.imp fun {a b} q z => q (by have z : (sid a : Int) = (sid b : Int) := z; omega)
def sp_slip (D : Ads) : Sp := sp_call1 D .slip
theorem ok_slip (T : Txt K mg D) : FnOk P w K mg base CX0 1 D.f_slip D.d_slip ["calendar", "wait"] (sp_slip D) := by
  refine T.F_slip.ok sc_slip (fun vs H Q E h => ?_) (fun cdv A outer s H vs Q E hr h => ?_)
  · obtain ⟨c, m, cal, x, rfl, _⟩ := h
    rfl
  · obtain ⟨c, m, cal, x, rfl, CA, k⟩ := h
    obtain ⟨dc, hc⟩ := CA.rep.cal
    have e1 := CA.good.row1
    have hclk := CA.good.clk
    refine ⟨_, pss_cons (ps_if (pt_not (pt_chain op_le op_le pe_int (pv 1) (pe_glob (v := .int (10000000000000)) rfl T.c_FAR ⟨_, rfl⟩))) (pss_one (ps_ret (pe_lst (pa_cons (pe_glob (v := .int (-6)) rfl T.c_BAD_TIME ⟨_, rfl⟩) pa_nil)))) pss_nil)
      (pss_cons (ps_set (i := 2) sc_slip.nd rfl (Or.inl rfl) (pe_ix ix_list (pe_fld (pv 0) rfl) (pe_glob (v := .int (1)) rfl T.c_FUTURE ⟨_, rfl⟩) (fun _ _ => rfl)))
      (pss_cons (ps_if (PW.pt (pw_and (pt_cmpR op_gt (pe_callB call_len_seq rfl T.n_len PySem.boot_len (pa_cons (pv 2) pa_nil)) pe_int (nomark _)) (pw_and1 (pt_cmpR op_gt (pe_op op_add (pe_fld (pe_dget (hu_of hr) (pe_fld (pv 0) rfl) (pe_ix ix_list (pv 2) (pe_un un_neg pe_int) (fun _ _ => rfl)) (fun _ _ => rfl)) rfl) (pv 1)) (pe_op op_add (pe_fld (pv 0) rfl) (pe_glob (v := .int (10000000000000)) rfl T.c_FAR ⟨_, rfl⟩)) (nomark _))))) (pss_one (ps_ret (pe_lst (pa_cons (pe_glob (v := .int (-12)) rfl T.c_TOO_LATE ⟨_, rfl⟩) pa_nil)))) pss_nil)
      (pss_cons (ps_for PassesOwn.never rfl (pi_list (pv 2)) (pg_name (i := 3) sc_slip.nd rfl (Or.inl rfl)) (pss_cons (ps_set (i := 4) sc_slip.nd rfl (Or.inl rfl) (pe_dget (hu_of hr) (pe_fld (pv 0) rfl) (pv 3) (fun _ _ => rfl)))
      (pss_one (ps_fldaug (pv 4) (pv 1) in_add))))
      (pss_one (ps_ret (pe_lst (pa_cons (pe_glob (v := .int (0)) rfl T.c_DONE ⟨_, rfl⟩) pa_nil))))))), ?_⟩
    have bad : ¬ (0 ≤ x ∧ x ≤ 10000000000000) → ∀ p, H p = none → Q (.ref p) (upd H p (.lst [.int (-6)])) := fun hb => k.no CA (st_slip_6 hb)
    refine ⟨_, rfl, _, _, rfl, rfl, _, rfl, iteD (fun h1 => ⟨_, _, rfl, rfl, _, rfl, ?_⟩) (fun h1 => ⟨_, rfl, iteT ⟨by decide, bad fun h => h1 h.1⟩⟩)⟩
    by_cases h2 : x ≤ 10000000000000
    case neg =>
      rw [decide_eq_false h2]
      exact iteT ⟨by decide, bad fun h => h2 h.2⟩
    rw [decide_eq_true h2]
    refine iteF ?_
    obtain ⟨d, rfl⟩ : ∃ d : Nat, x = (d : Int) := ⟨x.toNat, by omega⟩
    have hd0 : d ≤ 10000000000000 := by omega
    have hr1 := CA.rep.row 1 (by decide)
    refine ⟨_, rfl, c, D.c_Calendar, dc, _, _, rfl, hc, T.l_Calendar, T.n_Calendar_chains, rfl, m.l, _, _, _, rfl, rfl, SqL.of CA.rep.out, at_rows (w := 1) (by decide), ?_⟩
    -- all may slip: the walk
    have go : (∀ x ∈ cal.future, x.1 + d ≤ cal.clock + 10000000000000) → tSeq (tFor (iList K (tVar 2)) (gName 3) (tSeq (tAsg (tDGet (tFld K (tVar 0) "things") (tVar 3)) (gName 4)) (sFldAug K (tVar 4) (tVar 1) rAdd "due"))) (tRet (tLst (tCons (tC (.int 0)) tNil))) { nx := fun _ H' => Q .non H', rt := Q } [some (.ref c), some (.int (d : Int)), some (.ref (m.ra 1)), none, none] H := fun hall => by
      refine ⟨_, rfl, m.ra 1, rfl, ⟨_, SqL.of hr1⟩, ?_⟩
      refine for_list (xs := (m.row 1).map V.int) (fun i σ H' => ∃ v3 v4 m', σ = [some (.ref c), some (.int (d : Int)), some (.ref (m.ra 1)), v3, v4] ∧ Rep D H' c m' ∧ Kept c m H m' H' ∧ m'.row = m.row ∧ m'.clock = m.clock ∧ m'.n = m.n ∧ m'.ra = m.ra ∧ m'.th = lateTo m.th d ((m.row 1).take i))
        ⟨none, none, m, rfl, CA.rep, Kept.refl, rfl, rfl, rfl, rfl, ?_⟩ ?_ ?_ ?_
      · funext j
        unfold lateTo
        rw [List.take_zero, if_neg (by simp)]
      · rintro i σ H' _ ⟨v3, v4, m', rfl, R1, K1, q1, q2, q3, q4, q5⟩
        have := R1.row 1 (by decide)
        rw [q1, q4] at this
        exact SqL.of this
      · rintro i v σ H' hx ⟨v3, v4, m', rfl, R1, K1, q1, q2, q3, q4, q5⟩
        obtain ⟨id, hid, rfl⟩ := get_map hx
        have no := nodup_take (Good.row_nd CA.good (w := 1) (by decide)) hid
        have hid2 := hid
        rw [e1] at hid2
        obtain ⟨y, hy, ey⟩ := get_map hid2
        have hth : m.th id = some (thOf (fut y)) := by rw [← ey]; exact CA.good.thFut (List.mem_of_getElem? hy)
        have hth' : m'.th id = some (thOf (fut y)) := by
          rw [q5]
          unfold lateTo
          rw [if_neg no]; exact hth
        obtain ⟨a, hg⟩ := M.get_of_th hth'
        obtain ⟨kvs, hdd, k1, k2, k3⟩ := R1.dic
        have hv : valV kvs (Sum.inl id) = some (.ref a) := by rw [k3, hg]; rfl
        obtain ⟨⟨dx, ha⟩, _⟩ := R1.thg id a _ hg
        obtain ⟨dc1, hc1⟩ := R1.cal
        refine ⟨_, rfl, c, D.c_Calendar, dc1, _, _, rfl, hc1, T.l_Calendar, T.n_Calendar_things, rfl, _, rfl, m'.d, .ref a, rfl, (by rw [← hv]; exact DGet.k (k := Sum.inl id) hdd), ?_⟩
        refine ⟨_, rfl, a, D.c_Thing, dx, _, _, rfl, ha, T.l_Thing, T.n_Thing_due, rfl, _, rfl, _, _, rfl, rfl, dx, _, ha, (by show 6 < 1000; decide), ?_⟩
        have R2 := R1.setTh (dx := dx) (t' := lateTh d (thOf (fut y))) hg rfl
        refine ⟨_, _, { m' with get := at1 m'.get id (some (a, lateTh d (thOf (fut y)))) }, rfl, R2.1, K1.trans R2.2, q1, q2, q3, q4, ?_⟩
        show (fun j => (at1 m'.get id (some (a, lateTh d (thOf (fut y)))) j).map Prod.snd) = _
        rw [th_at1, q5, take_snoc hid, lateTo_snoc no hth]
      · rintro σ H' ⟨v3, v4, m', rfl, R1, K1, q1, q2, q3, q4, q5⟩
        refine ⟨by decide, k.yes (ans := [0]) (st_slip_ok hd0 hall) ⟨R1, ?_⟩ K1⟩
        rw [List.length_map, List.take_length] at q5
        rw [q1, q2, q3, q5]
        exact CA.good.slipped hall
    refine ⟨_, rfl, m.ra 1, _, rfl, .inl (SqL.of hr1), _, _, rfl, rfl, _, rfl, iteD (fun h3 => ?_) (fun h3 => ?_)⟩
    · have hne : cal.future ≠ [] := fun z => by rw [List.length_map, e1, z] at h3; exact absurd h3 (by show ¬ (0 : Int) < ((0 : Nat) : Int); decide)
      obtain ⟨fa, fl, efl⟩ := snoc_of hne
      have hml : fl ∈ cal.future := by rw [efl]; exact List.mem_append_right _ (List.mem_singleton.mpr rfl)
      obtain ⟨a, kvs, hg, hdd, hv, dx, ha⟩ := CA.thing (CA.good.thFut hml)
      have hlast : (m.row 1).map V.int = (fa.map fun y => V.int (y.2.id : Int)) ++ [.int (fl.2.id : Int)] := by rw [e1, efl, List.map_map, List.map_append]; rfl
      refine ⟨_, rfl, c, D.c_Calendar, dc, _, _, rfl, hc, T.l_Calendar, T.n_Calendar_things, rfl, _, rfl, _, rfl, m.ra 1, _, _, .int (fl.2.id : Int), rfl, rfl, SqL.of hr1, (by rw [hlast]; exact atI_last _ _), m.d, .ref a, rfl, (by rw [← hv]; exact DGet.k (k := Sum.inl (fl.2.id : Int)) hdd), a, D.c_Thing, dx, _, _, rfl, ha, T.l_Thing, T.n_Thing_due, rfl, _, rfl, _, _, rfl, rfl, ?_⟩
      refine ⟨_, rfl, c, D.c_Calendar, dc, _, _, rfl, hc, T.l_Calendar, T.n_Calendar_clock, rfl, _, _, rfl, rfl, _, _, rfl, rfl, _, rfl, iteD (fun h4 => ?_) (fun h4 => ?_)⟩
      · have h4 : m.clock + 10000000000000 < (fl.1 : Int) + (d : Int) := h4
        exact ⟨by decide, k.no CA (st_slip_12 hd0 efl (by omega))⟩
      · have h4 : ¬ m.clock + 10000000000000 < (fl.1 : Int) + (d : Int) := h4
        exact go fun y hy => by
          have := fut_last CA.good.snd efl y hy
          omega
    · have ef : cal.future = [] := by
        rw [List.length_map, e1, List.length_map] at h3
        exact List.eq_nil_of_length_eq_zero (by omega)
      exact iteF (go fun y hy => by rw [ef] at hy; cases hy)

/-! ### next -/
def sp_next_due (D : Ads) : Sp := sp_call0 D .next
theorem ok_next_due (T : Txt K mg D) : FnOk P w K mg base CX0 3 D.f_next_due D.d_next_due ["calendar"] (sp_next_due D) := by
  refine T.F_next_due.ok sc_next_due (fun vs H Q E h => ?_) (fun cdv A outer s H vs Q E hr h => ?_)
  · obtain ⟨c, m, cal, rfl, _⟩ := h
    rfl
  · obtain ⟨c, m, cal, rfl, CA, k⟩ := h
    obtain ⟨dc, hc⟩ := CA.rep.cal
    have e1 := CA.good.row1
    refine ⟨_, pss_cons (ps_if (pt_cmpR op_eq (pe_callB call_len_seq rfl T.n_len PySem.boot_len (pa_cons (pe_ix ix_list (pe_fld (pv 0) rfl) (pe_glob (v := .int (1)) rfl T.c_FUTURE ⟨_, rfl⟩) (fun _ _ => rfl)) pa_nil)) pe_int (nomark _)) (pss_one (ps_ret (pe_lst (pa_cons (pe_glob (v := .int (-11)) rfl T.c_NOTHING_IS_DUE ⟨_, rfl⟩) pa_nil)))) pss_nil)
      (pss_one (ps_ret (pe_lst (pa_cons (pe_glob (v := .int (0)) rfl T.c_DONE ⟨_, rfl⟩) (pa_cons (pe_call (ok_least_due T) (hr.mono (by decide)) rfl T.g_least_due T.F_least_due.kp T.b_least_due .nil pass0 (pa_cons (pv 0) pa_nil)) (pa_cons (pe_callB call_len_seq rfl T.n_len PySem.boot_len (pa_cons (pe_call (ok_ids_with_least_due T) (hr.mono (by decide)) rfl T.g_ids_with_least_due T.F_ids_with_least_due.kp T.b_ids_with_least_due .nil pass0 (pa_cons (pv 0) pa_nil)) pa_nil)) pa_nil)))))), ?_⟩
    refine ⟨_, rfl, c, D.c_Calendar, dc, _, _, rfl, hc, T.l_Calendar, T.n_Calendar_chains, rfl, m.l, _, _, _, rfl, rfl, SqL.of CA.rep.out, at_rows (w := 1) (by decide), m.ra 1, _, rfl, .inl (SqL.of (CA.rep.row 1 (by decide))), rfl, _, rfl, iteI (fun h => ?_) (fun h => ?_)⟩
    · have ef : cal.future = [] := by
        rw [List.length_map, e1, List.length_map] at h
        exact List.eq_nil_of_length_eq_zero (by omega)
      exact ⟨by decide, k.no CA (st_next_no ef)⟩
    cases ef0 : cal.future with
    | nil => rw [List.length_map, e1, ef0] at h; exact absurd rfl h
    | cons y l =>
    obtain ⟨d, x⟩ := y
    obtain ⟨a, b, ef, h1, h2⟩ := fut_parts CA.good.snd ef0
    refine ⟨_, rfl, c, m, cal, d, x, l, rfl, CA, ef0, _, rfl, c, m, cal, d, x, a, b, rfl, CA, ef, h1, h2, fun p hp => ?_⟩
    have L := CA.laid (o := .lst (((d, x) :: a).map fun y => V.int (y.2.id : Int))) hp
    refine ⟨p, _, rfl, .inl (SqL.of upd_same), (by show 3 ≤ sizeLine; decide), ?_⟩
    rw [List.length_map]
    exact k.yes (cal := cal) (ans := [0, (d : Int), ((((d, x) :: a).length : Nat) : Int)]) (st_next_ok ef h1 h2) L.1 L.2
end
end WP
end
section
set_option Elab.async false
set_option linter.all false
set_option maxRecDepth 100000
namespace WP
open PySem PySem.Spec PyProof.Rows L2 WM
section
variable {P : Program} {w : World} {K : PySem.W.Frag} {mg : Str → Option Value} {base : Heap} {D : Ads}
theorem size3 {b : Int} {n : Nat} (hb : b = 3 * (n : Int)) : Builtin.Range.rangeSize 0 b 3 = (n : Int) := by
  unfold Builtin.Range.rangeSize
  rw [if_pos (by decide)]
  by_cases e : n = 0
  · rw [if_neg (by omega)]; omega
  · rw [if_pos (by omega)]; omega
theorem size4 {b : Int} {n : Nat} (hb : b = 4 * (n : Int)) : Builtin.Range.rangeSize 0 b 4 = (n : Int) := by
  unfold Builtin.Range.rangeSize
  rw [if_pos (by decide)]
  by_cases e : n = 0
  · rw [if_neg (by omega)]; omega
  · rw [if_pos (by omega)]; omega
theorem small3 {b : Int} {n : Nat} (hb : b = 3 * (n : Int)) (h : b < 2 ^ 62) : Builtin.Range.small 0 b 3 = true := by
  unfold Builtin.Range.small
  rw [size3 hb]
  simp only [Builtin.Range.rangeFitsLong, Bool.and_eq_true, Bool.or_eq_true, decide_eq_true_eq, beq_iff_eq, show (3 : Int) > 0 by decide, if_true]
  omega
theorem small4 {b : Int} {n : Nat} (hb : b = 4 * (n : Int)) (h : b < 2 ^ 62) : Builtin.Range.small 0 b 4 = true := by
  unfold Builtin.Range.small
  rw [size4 hb]
  simp only [Builtin.Range.rangeFitsLong, Bool.and_eq_true, Bool.or_eq_true, decide_eq_true_eq, beq_iff_eq, show (4 : Int) > 0 by decide, if_true]
  omega
theorem rngW {b : Nat} {v n : Nat} (hb : b = n * wid v) (h : b ≤ 16000) : RgC 0 (b : Int) ((wid v : Nat) : Int) n := by
  unfold wid at hb ⊢
  by_cases e : v = 2
  · rw [if_pos e] at hb ⊢
    exact ⟨by decide, by decide, small4 (n := n) (by omega) (by omega), size4 (by omega)⟩
  · rw [if_neg e] at hb ⊢
    exact ⟨by decide, by decide, small3 (n := n) (by omega) (by omega), size3 (by omega)⟩
theorem cut_mid (xs : List V) (i k : Nat) : cutV xs (some (i : Int)) (some ((i + k : Nat) : Int)) = (xs.drop i).take k := by
  unfold cutV
  rw [HT.sIx_nat, HT.sIx_nat]
  by_cases h : i ≤ xs.length
  · rw [Nat.min_eq_left h]
    by_cases h2 : i + k ≤ xs.length
    · rw [Nat.min_eq_left h2, Nat.add_sub_cancel_left]
    · rw [Nat.min_eq_right (by omega), List.take_of_length_le (by rw [List.length_drop]; omega), List.take_of_length_le (by rw [List.length_drop]; omega)]
  · rw [show min i xs.length = xs.length by omega, List.drop_length, List.drop_of_length_le (by omega)]; simp
theorem at_wid {v : Nat} (h : v < 4) : atI ([3, 3, 4, 3].map V.int) (v : Int) = some (.int ((wid v : Nat) : Int)) := by
  refine atI_nat ?_
  match v, h with
  | 0, _ => rfl
  | 1, _ => rfl
  | 2, _ => rfl
  | 3, _ => rfl
theorem wid_small (v : Nat) : wid v = 3 ∨ wid v = 4 := by unfold wid; split <;> simp

/-! ### become -/
theorem Rep.moveTo {H : Hp} {c x : Addr} {m : M} (R : Rep D H x m) (no : ¬ m.owns x c) (dc : Addr) : Rep D (upd H c (.ins D.c_Calendar dc (calF m.clock m.d m.l))) c m := by
  obtain ⟨kvs, hd, k1, k2, k3⟩ := R.dic
  refine ⟨⟨dc, upd_same⟩, ?_, fun v hv => ?_, R.inj, ⟨kvs, ?_, k1, k2, k3⟩, fun i a t e => ?_⟩
  · rw [upd_ne (fun z => no (.inr (.inr (.inl z.symm))))]; exact R.out
  · rw [upd_ne (fun z => no (.inr (.inr (.inr (.inl ⟨v, hv, z.symm⟩)))))]; exact R.row v hv
  · rw [upd_ne (fun z => no (.inr (.inl z.symm)))]; exact hd
  · obtain ⟨⟨dy, ht⟩, q⟩ := R.thg i a t e
    exact ⟨⟨dy, by rw [upd_ne (fun z => no (.inr (.inr (.inr (.inr ⟨i, a, t, e, z.symm⟩)))))]; exact ht⟩, q⟩
def sp_become (D : Ads) : Sp := fun vs H Q _ => ∃ c x dc k0 d0 l0 m cal, vs = [.ref c, .ref x] ∧ H c = some (.ins D.c_Calendar dc (calF k0 d0 l0)) ∧ CalAt D H x m cal ∧ ¬ m.owns x c ∧
  ∀ H', CalAt D H' c m cal → (∀ b o, H b = some o → b ≠ c → H' b = some o) → Q .non H'
theorem ok_become (T : Txt K mg D) : FnOk P w K mg base CX0 1 D.f_become D.d_become ["calendar", "other"] (sp_become D) := by
  refine T.F_become.ok sc_become (fun vs H Q E h => ?_) (fun cdv A outer s H vs Q E hr h => ?_)
  · obtain ⟨c, x, dc, k0, d0, l0, m, cal, rfl, _⟩ := h
    rfl
  · obtain ⟨c, x, dc, k0, d0, l0, m, cal, rfl, hc, CA, no, k⟩ := h
    obtain ⟨dx, hx⟩ := CA.rep.cal
    have nxc : x ≠ c := fun z => no (.inl z.symm)
    have hx' : ∀ o, upd H c o x = some (.ins D.c_Calendar dx (calF m.clock m.d m.l)) := fun o => by rw [upd_ne nxc]; exact hx
    refine ⟨_, pss_cons (ps_fld (pv 0) (pe_fld (pv 1) rfl) rfl)
      (pss_cons (ps_fld (pv 0) (pe_fld (pv 1) rfl) rfl)
      (pss_one (ps_fld (pv 0) (pe_fld (pv 1) rfl) rfl))), ?_⟩
    refine ⟨_, rfl, x, D.c_Calendar, dx, _, _, rfl, hx, T.l_Calendar, T.n_Calendar_clock, rfl, _, rfl, c, D.c_Calendar, dc, _, rfl, hc, T.l_Calendar, T.n_Calendar_clock, (by show 3 < 1000; decide), ?_⟩
    refine ⟨_, rfl, x, D.c_Calendar, dx, _, _, rfl, hx' _, T.l_Calendar, T.n_Calendar_things, rfl, _, rfl, c, D.c_Calendar, dc, _, rfl, upd_same, T.l_Calendar, T.n_Calendar_things, (by show 3 < 1000; decide), ?_⟩
    rw [upd_upd]
    refine ⟨_, rfl, x, D.c_Calendar, dx, _, _, rfl, hx' _, T.l_Calendar, T.n_Calendar_chains, rfl, _, rfl, c, D.c_Calendar, dc, _, rfl, upd_same, T.l_Calendar, T.n_Calendar_chains, (by show 3 < 1000; decide), ?_⟩
    rw [upd_upd]
    refine k _ ⟨CA.rep.moveTo no dc, CA.good⟩ (fun b o e n => ?_)
    rw [upd_ne n]; exact e

/-! ### thing_from -/
def sp_thing_from (D : Ads) : Sp := fun vs H Q _ => ∃ q, ∃ (v : Nat) (ns : List Int) (a b x y : Int), vs = [.int (v : Int), .ref q] ∧ H q = some (.lst (ns.map V.int)) ∧ ns[0]? = some a ∧ ns[1]? = some b ∧ ns[2]? = some x ∧ (v = 2 → ns[3]? = some y) ∧
  ∀ H' p, Same H H' → ThAt D H' p (thN v a b x y) → H p = none → Q (.ref p) H'
theorem at_map {ns : List Int} {j : Nat} {a : Int} (h : ns[j]? = some a) : atI (ns.map V.int) (j : Int) = some (.int a) := atI_nat (by rw [List.getElem?_map, h]; rfl)
theorem ok_thing_from (T : Txt K mg D) : FnOk P w K mg base CX0 3 D.f_thing_from D.d_thing_from ["chain", "numbers"] (sp_thing_from D) := by
  refine T.F_thing_from.ok sc_thing_from (fun vs H Q E h => ?_) (fun cdv A outer s H vs Q E hr h => ?_)
  · obtain ⟨q, v, ns, a, b, x, y, rfl, _⟩ := h
    rfl
  · obtain ⟨q, v, ns, a, b, x, y, rfl, hq, n0, n1, n2, n3, k⟩ := h
    refine ⟨_, pss_cons (ps_set (i := 2) sc_thing_from.nd rfl (Or.inl rfl) (pe_make T.m_Thing (ok_Thing_init T) (hr.mono (by decide)) rfl T.g_Thing T.b_Thing_init .nil pass0 (pa_cons (pe_ix ix_list (pv 1) pe_int (fun _ _ => rfl)) (pa_cons (pe_ix ix_list (pv 1) pe_int (fun _ _ => rfl)) pa_nil))))
      (pss_cons (ps_fld (pv 2) (pv 0) rfl)
      (pss_cons (ps_if (pt_cmpR op_eq (pv 0) (pe_glob (v := .int (1)) rfl T.c_FUTURE ⟨_, rfl⟩) (nomark _)) (pss_one (ps_fld (pv 2) (pe_ix ix_list (pv 1) pe_int (fun _ _ => rfl)) rfl)) (pss_one (ps_fld (pv 2) (pe_ix ix_list (pv 1) pe_int (fun _ _ => rfl)) rfl)))
      (pss_cons (ps_if (pt_cmpR op_eq (pv 0) (pe_glob (v := .int (2)) rfl T.c_FROZEN ⟨_, rfl⟩) (nomark _)) (pss_one (ps_fld (pv 2) (pe_ix ix_list (pv 1) pe_int (fun _ _ => rfl)) rfl)) pss_nil)
      (pss_one (ps_ret (pv 2)))))), ?_⟩
    refine ⟨_, rfl, q, _, _, .int a, rfl, rfl, SqL.of hq, at_map (j := 0) n0, _, rfl, q, _, _, .int b, rfl, rfl, SqL.of hq, at_map (j := 1) n1, fun p dp np nd ne => ⟨p, dp, a, b, rfl, upd_same, rfl, ?_⟩⟩
    rw [upd_upd]
    have s1 : Same H (upd (upd H dp (.own p)) p (.ins D.c_Thing dp (thF ⟨a, b, 0, 0, 0, 0⟩))) := fun b o e => by
      rw [upd_ne (ne_of_none e np), upd_ne (ne_of_none e nd)]; exact e
    generalize hH1 : upd (upd H dp (.own p)) p (.ins D.c_Thing dp (thF ⟨a, b, 0, 0, 0, 0⟩)) = H1 at s1
    have hp : H1 p = some (.ins D.c_Thing dp (thF ⟨a, b, 0, 0, 0, 0⟩)) := by rw [← hH1]; exact upd_same
    have s2 : ∀ o, Same H (upd H1 p o) := fun o b u e => by rw [upd_ne (ne_of_none e np)]; exact s1 b u e
    refine ⟨_, rfl, _, rfl, p, D.c_Thing, dp, _, rfl, hp, T.l_Thing, T.n_Thing_chain, (by show 6 < 1000; decide), ?_⟩
    by_cases e1 : v = 1
    · subst e1
      refine ⟨_, rfl, rfl, _, rfl, iteI (fun _ => ?_) (fun z => absurd rfl z)⟩
      refine ⟨_, rfl, q, _, _, .int x, rfl, rfl, SqL.of (s2 _ _ _ hq), at_map (j := 2) n2, _, rfl, p, D.c_Thing, dp, _, rfl, upd_same, T.l_Thing, T.n_Thing_due, (by show 6 < 1000; decide), ?_⟩
      rw [upd_upd]
      refine ⟨_, rfl, rfl, _, rfl, iteI (fun z => absurd z (by decide)) (fun _ => ?_)⟩
      exact ⟨_, rfl, k _ p (s2 _) ⟨dp, upd_same⟩ np⟩
    · refine ⟨_, rfl, rfl, _, rfl, iteI (fun z => absurd (show v = 1 by omega) e1) (fun _ => ?_)⟩
      refine ⟨_, rfl, q, _, _, .int x, rfl, rfl, SqL.of (s2 _ _ _ hq), at_map (j := 2) n2, _, rfl, p, D.c_Thing, dp, _, rfl, upd_same, T.l_Thing, T.n_Thing_holds, (by show 6 < 1000; decide), ?_⟩
      rw [upd_upd]
      by_cases e2 : v = 2
      · subst e2
        refine ⟨_, rfl, rfl, _, rfl, iteI (fun _ => ?_) (fun z => absurd rfl z)⟩
        refine ⟨_, rfl, q, _, _, .int y, rfl, rfl, SqL.of (s2 _ _ _ hq), at_map (j := 3) (n3 rfl), _, rfl, p, D.c_Thing, dp, _, rfl, upd_same, T.l_Thing, T.n_Thing_rest, (by show 6 < 1000; decide), ?_⟩
        rw [upd_upd]
        exact ⟨_, rfl, k _ p (s2 _) ⟨dp, upd_same⟩ np⟩
      · refine ⟨_, rfl, rfl, _, rfl, iteI (fun z => absurd (show v = 2 by omega) e2) (fun _ => ?_)⟩
        refine ⟨_, rfl, k _ p (s2 _) ⟨dp, ?_⟩ np⟩
        rw [upd_same]
        unfold thN
        rw [if_neg e1, if_neg e1, if_neg e2]; rfl

/-! ### may_be_last -/
def sp_in_its_ranges (D : Ads) : Sp := fun vs H Q _ => ∃ c m a t, vs = [.ref c, .ref a] ∧ Rep D H c m ∧ ThAt D H a t ∧ Q (.bl (rangesB m.clock t)) H
theorem ok_in_its_ranges (T : Txt K mg D) : FnOk P w K mg base CX0 1 D.f_in_its_ranges D.d_in_its_ranges ["calendar", "thing"] (sp_in_its_ranges D) := by
  refine T.F_in_its_ranges.ok sc_in_its_ranges (fun vs H Q E h => ?_) (fun cdv A outer s H vs Q E hr h => ?_)
  · obtain ⟨c, m, a, t, rfl, _⟩ := h
    rfl
  · obtain ⟨c, m, a, t, rfl, R, ⟨dx, ha⟩, k⟩ := h
    obtain ⟨dc, hc⟩ := R.cal
    refine ⟨_, pss_cons (ps_if (pt_not (pt_chain op_le op_le (pe_glob (v := .int (1)) rfl T.c_LEAST_ID ⟨_, rfl⟩) (pe_fld (pv 1) rfl) (pe_glob (v := .int (1000000000)) rfl T.c_GREATEST_ID ⟨_, rfl⟩))) (pss_one (ps_ret pe_bl)) pss_nil)
      (pss_cons (ps_if (pt_not (pt_chain op_le op_le (pe_glob (v := .int (-1000)) rfl T.c_LEAST_PRIORITY ⟨_, rfl⟩) (pe_fld (pv 1) rfl) (pe_glob (v := .int (1000)) rfl T.c_GREATEST_PRIORITY ⟨_, rfl⟩))) (pss_one (ps_ret pe_bl)) pss_nil)
      (pss_cons (ps_if (pt_not (pt_chain op_le op_le pe_int (pe_fld (pv 1) rfl) (pe_glob (v := .int (1000)) rfl T.c_MOST_HOLDS ⟨_, rfl⟩))) (pss_one (ps_ret pe_bl)) pss_nil)
      (pss_cons (ps_if (pt_cmpR op_eq (pe_fld (pv 1) rfl) (pe_glob (v := .int (1)) rfl T.c_FUTURE ⟨_, rfl⟩) (nomark _)) (pss_one (ps_ret (pe_chain op_le op_le (pe_fld (pv 0) rfl) (pe_fld (pv 1) rfl) (pe_op op_add (pe_fld (pv 0) rfl) (pe_glob (v := .int (10000000000000)) rfl T.c_FAR ⟨_, rfl⟩))))) pss_nil)
      (pss_cons (ps_if (pt_cmpR op_eq (pe_fld (pv 1) rfl) (pe_glob (v := .int (2)) rfl T.c_FROZEN ⟨_, rfl⟩) (nomark _)) (pss_one (ps_ret (pe_and (pe_cmpR op_gt (pe_fld (pv 1) rfl) pe_int (nomark _)) (pe_one (pe_chain op_le op_le pe_int (pe_fld (pv 1) rfl) (pe_glob (v := .int (10000000000000)) rfl T.c_FAR ⟨_, rfl⟩)))))) pss_nil)
      (pss_one (ps_ret pe_bl)))))), ?_⟩
    unfold rangesB at k
    have b1 : ¬ (1 ≤ t.num ∧ t.num ≤ 1000000000) → Q (.bl false) H := fun z => by rw [decide_eq_false z] at k; exact k
    refine ⟨_, rfl, a, D.c_Thing, dx, _, _, rfl, ha, T.l_Thing, T.n_Thing_number, rfl, _, _, rfl, rfl, _, rfl, iteD (fun h1 => ⟨_, _, rfl, rfl, _, rfl, ?_⟩) (fun h1 => ⟨_, rfl, iteT (b1 fun h => h1 h.1)⟩)⟩
    by_cases h2 : t.num ≤ 1000000000
    case neg =>
      rw [decide_eq_false h2]
      exact iteT (b1 fun h => h2 h.2)
    rw [decide_eq_true h2]
    refine iteF ?_
    rw [decide_eq_true (show 1 ≤ t.num ∧ t.num ≤ 1000000000 from ⟨h1, h2⟩), Bool.true_and] at k
    have b2 : ¬ (-1000 ≤ t.pri ∧ t.pri ≤ 1000) → Q (.bl false) H := fun z => by rw [decide_eq_false z] at k; exact k
    refine ⟨_, rfl, a, D.c_Thing, dx, _, _, rfl, ha, T.l_Thing, T.n_Thing_priority, rfl, _, _, rfl, rfl, _, rfl, iteD (fun h3 => ⟨_, _, rfl, rfl, _, rfl, ?_⟩) (fun h3 => ⟨_, rfl, iteT (b2 fun h => h3 h.1)⟩)⟩
    by_cases h4 : t.pri ≤ 1000
    case neg =>
      rw [decide_eq_false h4]
      exact iteT (b2 fun h => h4 h.2)
    rw [decide_eq_true h4]
    refine iteF ?_
    rw [decide_eq_true (show -1000 ≤ t.pri ∧ t.pri ≤ 1000 from ⟨h3, h4⟩), Bool.true_and] at k
    have b3 : ¬ (0 ≤ t.hol ∧ t.hol ≤ 1000) → Q (.bl false) H := fun z => by rw [decide_eq_false z] at k; exact k
    refine ⟨_, rfl, a, D.c_Thing, dx, _, _, rfl, ha, T.l_Thing, T.n_Thing_holds, rfl, _, _, rfl, rfl, _, rfl, iteD (fun h5 => ⟨_, _, rfl, rfl, _, rfl, ?_⟩) (fun h5 => ⟨_, rfl, iteT (b3 fun h => h5 h.1)⟩)⟩
    by_cases h6 : t.hol ≤ 1000
    case neg =>
      rw [decide_eq_false h6]
      exact iteT (b3 fun h => h6 h.2)
    rw [decide_eq_true h6]
    refine iteF ?_
    rw [decide_eq_true (show 0 ≤ t.hol ∧ t.hol ≤ 1000 from ⟨h5, h6⟩), Bool.true_and] at k
    refine ⟨_, rfl, a, D.c_Thing, dx, _, _, rfl, ha, T.l_Thing, T.n_Thing_chain, rfl, rfl, _, rfl, iteI (fun e => ?_) (fun e => ?_)⟩
    · rw [if_pos (by omega)] at k
      refine ⟨_, rfl, c, D.c_Calendar, dc, _, _, rfl, hc, T.l_Calendar, T.n_Calendar_clock, rfl, _, rfl, a, D.c_Thing, dx, _, _, rfl, ha, T.l_Thing, T.n_Thing_due, rfl, _, _, rfl, rfl, _, rfl, iteD (fun h7 => ?_) (fun h7 => ?_)⟩
      · refine ⟨_, rfl, c, D.c_Calendar, dc, _, _, rfl, hc, T.l_Calendar, T.n_Calendar_clock, rfl, _, _, rfl, rfl, _, _, rfl, rfl, ?_⟩
        rw [show decide (m.clock ≤ t.due ∧ t.due ≤ m.clock + 10000000000000) = decide (t.due ≤ m.clock + 10000000000000) from dec_eq ⟨fun z => z.2, fun z => ⟨h7, z⟩⟩] at k
        exact k
      · rw [decide_eq_false (fun z : m.clock ≤ t.due ∧ t.due ≤ m.clock + 10000000000000 => h7 z.1)] at k
        exact k
    rw [if_neg (by omega)] at k
    refine ⟨_, rfl, a, D.c_Thing, dx, _, _, rfl, ha, T.l_Thing, T.n_Thing_chain, rfl, rfl, _, rfl, iteI (fun e2 => ?_) (fun e2 => ?_)⟩
    · rw [if_pos (by omega)] at k
      refine ⟨_, rfl, a, D.c_Thing, dx, _, _, rfl, ha, T.l_Thing, T.n_Thing_holds, rfl, _, _, rfl, rfl, _, rfl, iteD (fun h7 => ?_) (fun h7 => ?_)⟩
      · refine ⟨_, rfl, a, D.c_Thing, dx, _, _, rfl, ha, T.l_Thing, T.n_Thing_rest, rfl, _, _, rfl, rfl, _, rfl, iteD (fun h8 => ?_) (fun h8 => ?_)⟩
        · refine ⟨_, _, rfl, rfl, ?_⟩
          rw [show decide (0 < t.hol ∧ 0 ≤ t.rst ∧ t.rst ≤ 10000000000000) = decide (t.rst ≤ 10000000000000) from dec_eq ⟨fun z => z.2.2, fun z => ⟨h7, h8, z⟩⟩] at k
          exact k
        · rw [decide_eq_false (fun z : 0 < t.hol ∧ 0 ≤ t.rst ∧ t.rst ≤ 10000000000000 => h8 z.2.1)] at k
          exact k
      · rw [decide_eq_false (fun z : 0 < t.hol ∧ 0 ≤ t.rst ∧ t.rst ≤ 10000000000000 => h7 z.1)] at k
        exact k
    · rw [if_neg (by omega)] at k
      exact k
def sp_keeps_order (D : Ads) : Sp := fun vs H Q _ => ∃ c m a t, vs = [.ref c, .ref a] ∧ Rep D H c m ∧ ThAt D H a t ∧ t.chn < 4 ∧ (∀ j ∈ m.row t.chn, ∃ b u, m.get j = some (b, u)) ∧ Q (.bl (keepsB m.row m.th t)) H
theorem ok_keeps_order (T : Txt K mg D) : FnOk P w K mg base CX0 2 D.f_keeps_order D.d_keeps_order ["calendar", "thing"] (sp_keeps_order D) := by
  refine T.F_keeps_order.ok sc_keeps_order (fun vs H Q E h => ?_) (fun cdv A outer s H vs Q E hr h => ?_)
  · obtain ⟨c, m, a, t, rfl, _⟩ := h
    rfl
  · obtain ⟨c, m, a, t, rfl, R, ⟨dx, ha⟩, hw, hk, k⟩ := h
    obtain ⟨dc, hc⟩ := R.cal
    have hrow := R.row _ hw
    refine ⟨_, pss_cons (ps_set (i := 2) sc_keeps_order.nd rfl (Or.inl rfl) (pe_ix ix_list (pe_fld (pv 0) rfl) (pe_fld (pv 1) rfl) (fun _ _ => rfl)))
      (pss_one (ps_ret (pe_or (pe_cmpR op_eq (pe_callB call_len_seq rfl T.n_len PySem.boot_len (pa_cons (pv 2) pa_nil)) pe_int (nomark _)) (pe_one (pe_cmpR op_le (pe_call (ok_order_key T) (hr.mono (by decide)) rfl T.g_order_key T.F_order_key.kp T.b_order_key .nil pass0 (pa_cons (pe_dget (hu_of hr) (pe_fld (pv 0) rfl) (pe_ix ix_list (pv 2) (pe_un un_neg pe_int) (fun _ _ => rfl)) (fun _ _ => rfl)) pa_nil)) (pe_call (ok_order_key T) (hr.mono (by decide)) rfl T.g_order_key T.F_order_key.kp T.b_order_key .nil pass0 (pa_cons (pv 1) pa_nil)) (nomark _)))))), ?_⟩
    unfold keepsB at k
    refine ⟨_, rfl, c, D.c_Calendar, dc, _, _, rfl, hc, T.l_Calendar, T.n_Calendar_chains, rfl, _, rfl, a, D.c_Thing, dx, _, _, rfl, ha, T.l_Thing, T.n_Thing_chain, rfl, m.l, _, _, _, rfl, rfl, SqL.of R.out, at_rows hw, ?_⟩
    refine ⟨_, rfl, m.ra t.chn, _, rfl, .inl (SqL.of hrow), rfl, _, rfl, iteI (fun e => ?_) (fun e => ?_)⟩
    · have e : m.row t.chn = [] := by
        rw [List.length_map] at e
        exact List.eq_nil_of_length_eq_zero (by omega)
      rw [e] at k; exact k
    · have hne : m.row t.chn ≠ [] := fun z => e (by rw [z]; rfl)
      obtain ⟨fa, j, ej⟩ := snoc_of hne
      rw [ej, List.getLast?_concat] at k
      obtain ⟨b, u, hg⟩ := hk j (by rw [ej]; simp)
      obtain ⟨kvs, hd, k1, k2, k3⟩ := R.dic
      have hv : valV kvs (Sum.inl j) = some (.ref b) := by rw [k3, hg]; rfl
      have k : Q (.bl (decide (keyAt m.th j ≤ kI t))) H := k
      rw [keyAt_some (M.th_some hg)] at k
      exact ⟨_, rfl, c, D.c_Calendar, dc, _, _, rfl, hc, T.l_Calendar, T.n_Calendar_things, rfl, _, rfl, _, rfl, m.ra t.chn, _, _, .int j, rfl, rfl, SqL.of hrow, (by rw [ej, List.map_append]; exact atI_last _ _), m.d, .ref b, rfl, (by rw [← hv]; exact DGet.k (k := Sum.inl j) hd), b, u, rfl, (R.thg j b u hg).1, _, rfl, a, t, rfl, ⟨dx, ha⟩, _, _, rfl, rfl, k⟩
def sp_may_be_last (D : Ads) : Sp := fun vs H Q _ => ∃ c m a t, vs = [.ref c, .ref a] ∧ Rep D H c m ∧ ThAt D H a t ∧ t.chn < 4 ∧ (∀ j ∈ m.row t.chn, ∃ b u, m.get j = some (b, u)) ∧ Q (.bl (mayB m.clock m.row m.th m.n t)) H
theorem ok_may_be_last (T : Txt K mg D) : FnOk P w K mg base CX0 3 D.f_may_be_last D.d_may_be_last ["calendar", "thing"] (sp_may_be_last D) := by
  refine T.F_may_be_last.ok sc_may_be_last (fun vs H Q E h => ?_) (fun cdv A outer s H vs Q E hr h => ?_)
  · obtain ⟨c, m, a, t, rfl, _⟩ := h
    rfl
  · obtain ⟨c, m, a, t, rfl, R, ⟨dx, ha⟩, hw, hk, k⟩ := h
    obtain ⟨dc, hc⟩ := R.cal
    obtain ⟨kvs, hd, k1, k2, k3⟩ := R.dic
    refine ⟨_, pss_cons (ps_if (PW.pt (pw_or (pt_cmpR op_ge (pe_callB call_lenD rfl T.n_len PySem.boot_len (pa_cons (pe_fld (pv 0) rfl) pa_nil)) (pe_glob (v := .int (2000)) rfl T.c_MOST_KNOWN ⟨_, rfl⟩) (nomark _)) (pw_or1 (pt_cmp (pc_din (hu_of hr) (pe_fld (pv 1) rfl) (pe_fld (pv 0) rfl)))))) (pss_one (ps_ret pe_bl)) pss_nil)
      (pss_one (ps_ret (pe_and (pe_call (ok_in_its_ranges T) (hr.mono (by decide)) rfl T.g_in_its_ranges T.F_in_its_ranges.kp T.b_in_its_ranges .nil pass0 (pa_cons (pv 0) (pa_cons (pv 1) pa_nil))) (pe_one (pe_call (ok_keeps_order T) (hr.mono (by decide)) rfl T.g_keeps_order T.F_keeps_order.kp T.b_keeps_order .nil pass0 (pa_cons (pv 0) (pa_cons (pv 1) pa_nil))))))), ?_⟩
    unfold mayB at k
    refine ⟨_, rfl, c, D.c_Calendar, dc, _, _, rfl, hc, T.l_Calendar, T.n_Calendar_things, rfl, m.d, kvs, rfl, hd, _, _, rfl, rfl, _, rfl, iteD (fun h1 => ?_) (fun h1 => ?_)⟩
    · rw [decide_eq_true (show 2000 ≤ m.n by omega)] at k
      exact iteT k
    rw [decide_eq_false (show ¬ 2000 ≤ m.n by omega), Bool.false_or] at k
    refine ⟨_, rfl, a, D.c_Thing, dx, _, _, rfl, ha, T.l_Thing, T.n_Thing_number, rfl, _, rfl, c, D.c_Calendar, dc, _, _, rfl, hc, T.l_Calendar, T.n_Calendar_things, rfl, m.d, _, rfl, DGet.k (k := Sum.inl t.num) hd, _, rfl, ?_⟩
    have hs : (valV kvs (Sum.inl t.num)).isSome = (m.th t.num).isSome := by rw [k3]; unfold M.th; cases m.get t.num <;> rfl
    rw [hs]
    cases e : (m.th t.num).isSome with
    | true => rw [e] at k; exact iteT k
    | false =>
      rw [e, Bool.not_false, Bool.true_and] at k
      refine iteF ?_
      refine ⟨_, rfl, _, rfl, c, m, a, t, rfl, R, ⟨dx, ha⟩, _, rfl, ?_⟩
      cases e2 : rangesB m.clock t with
      | false => rw [e2] at k; exact iteF k
      | true =>
        rw [e2, Bool.true_and] at k
        exact iteT ⟨_, rfl, _, rfl, c, m, a, t, rfl, R, ⟨dx, ha⟩, hw, hk, k⟩

/-! ### chain_end -/
def endV (row : List Int) (i v : Nat) : V := match row.drop i with
  | [] => .non
  | n :: r => if 0 ≤ n ∧ n.toNat * v ≤ r.length then .int ((i + 1 + n.toNat * v : Nat) : Int) else .non
def sp_chain_end (D : Ads) : Sp := fun vs H Q _ => ∃ q, ∃ (row : List Int) (i v : Nat), vs = [.ref q, .int (i : Int), .int (v : Int)] ∧ H q = some (.lst (row.map V.int)) ∧ 1 ≤ v ∧ v ≤ 4 ∧ row.length ≤ 16000 ∧ Q (endV row i v) H
theorem ok_chain_end (T : Txt K mg D) : FnOk P w K mg base CX0 1 D.f_chain_end D.d_chain_end ["row", "start", "width"] (sp_chain_end D) := by
  refine T.F_chain_end.ok sc_chain_end (fun vs H Q E h => ?_) (fun cdv A outer s H vs Q E hr h => ?_)
  · obtain ⟨q, row, i, v, rfl, _⟩ := h
    rfl
  · obtain ⟨q, row, i, v, rfl, hq, v1, v2, hl, k⟩ := h
    refine ⟨_, pss_cons (ps_if (pt_cmpR op_ge (pv 1) (pe_callB call_len_seq rfl T.n_len PySem.boot_len (pa_cons (pv 0) pa_nil)) (nomark _)) (pss_one (ps_ret pe_non)) pss_nil)
      (pss_cons (ps_set (i := 3) sc_chain_end.nd rfl (Or.inl rfl) (pe_ix ix_list (pv 0) (pv 1) (fun _ _ => rfl)))
      (pss_cons (ps_if (pt_not (pt_chain op_le op_le pe_int (pv 3) (pe_op op_fdiv (pe_op op_sub (pe_op op_sub (pe_callB call_len_seq rfl T.n_len PySem.boot_len (pa_cons (pv 0) pa_nil)) (pv 1)) pe_int) (pv 2)))) (pss_one (ps_ret pe_non)) pss_nil)
      (pss_one (ps_ret (pe_op op_add (pe_op op_add (pv 1) pe_int) (pe_op op_mul (pv 3) (pv 2))))))), ?_⟩
    unfold endV at k
    refine ⟨_, rfl, _, rfl, q, _, rfl, .inl (SqL.of hq), _, _, rfl, rfl, _, rfl, iteD (fun h1 => ?_) (fun h1 => ?_)⟩
    · rw [List.length_map] at h1
      rw [List.drop_of_length_le (by omega)] at k
      exact k
    have hi : i < row.length := by rw [List.length_map] at h1; omega
    rw [List.drop_eq_getElem_cons hi] at k
    have hn : row[i]? = some row[i] := List.getElem?_eq_getElem hi
    generalize row[i] = n at k hn
    simp only [List.length_drop] at k
    refine ⟨_, rfl, _, rfl, q, _, _, .int n, rfl, rfl, SqL.of hq, at_map hn, ?_⟩
    have bad : ¬ (0 ≤ n ∧ n.toNat * v ≤ row.length - (i + 1)) → Q .non H := fun z => by rw [if_neg z] at k; exact k
    refine ⟨_, rfl, _, _, rfl, rfl, _, rfl, iteD (fun h2 => ?_) (fun h2 => ⟨_, rfl, iteT (bad fun z => h2 z.1)⟩)⟩
    refine ⟨_, rfl, q, _, rfl, .inl (SqL.of hq), _, rfl, _, _, rfl, rfl, _, _, rfl, rfl, _, rfl, _, _, rfl, rfl, ⟨by omega, by omega⟩, _, _, rfl, rfl, _, rfl, ?_⟩
    rw [List.length_map]
    have hiff : n ≤ ((row.length : Int) - (i : Int) - 1) / (v : Int) ↔ n.toNat * v ≤ row.length - (i + 1) := by
      rw [Int.le_ediv_iff_mul_le (by omega)]
      obtain ⟨a, rfl⟩ : ∃ a : Nat, n = (a : Int) := ⟨n.toNat, by omega⟩
      rw [Int.toNat_natCast, ← Int.natCast_mul]
      generalize a * v = z
      omega
    by_cases h3 : n ≤ ((row.length : Int) - (i : Int) - 1) / (v : Int)
    case neg =>
      rw [decide_eq_false h3]
      exact iteT (bad fun z => h3 (hiff.mpr z.2))
    rw [decide_eq_true h3]
    refine iteF ?_
    rw [if_pos ⟨h2, hiff.mp h3⟩] at k
    refine ⟨_, rfl, _, _, rfl, rfl, _, rfl, _, rfl, _, _, rfl, rfl, .inr ⟨by omega, by omega⟩, _, _, rfl, rfl, ?_⟩
    have e : (i : Int) + 1 + n * (v : Int) = ((i + 1 + n.toNat * v : Nat) : Int) := by
      obtain ⟨a, rfl⟩ : ∃ a : Nat, n = (a : Int) := ⟨n.toNat, by omega⟩
      rw [Int.toNat_natCast, ← Int.natCast_mul]
      generalize a * v = z
      omega
    show Q (.int ((i : Int) + 1 + n * (v : Int))) H
    rw [e]; exact k
end
end WP
end
section
set_option Elab.async false
set_option linter.all false
set_option maxRecDepth 100000
namespace WP
open PySem PySem.Spec PyProof.Rows L2 WM
section
variable {P : Program} {w : World} {K : PySem.W.Frag} {mg : Str → Option Value} {base : Heap} {D : Ads}
/-- the numbers of one thing -/
theorem chunk_at {l : List Int} {k i v : Nat} (hl : l.length = k * wid v) (hi : i < k) : ∃ (ns : List Int) (a b x y : Int), (l.drop (i * wid v)).take (wid v) = ns ∧ ns[0]? = some a ∧ ns[1]? = some b ∧ ns[2]? = some x ∧ (v = 2 → ns[3]? = some y) ∧ spotOf v ns = spotN v a b x y := by
  have h1 : (i + 1) * wid v ≤ k * wid v := Nat.mul_le_mul_right _ hi
  rw [Nat.succ_mul] at h1
  have hlen : ((l.drop (i * wid v)).take (wid v)).length = wid v := by rw [List.length_take, List.length_drop]; omega
  generalize hns : (l.drop (i * wid v)).take (wid v) = ns at hlen
  refine ⟨ns, ?_⟩
  by_cases e : v = 2
  · subst e
    match ns, hlen with
    | [a, b, x, y], _ => exact ⟨a, b, x, y, rfl, rfl, rfl, rfl, fun _ => rfl, rfl⟩
  · have hw : wid v = 3 := by unfold wid; rw [if_neg e]
    rw [hw] at hlen
    match ns, hlen with
    | [a, b, x], _ => exact ⟨a, b, x, 0, rfl, rfl, rfl, rfl, fun z => absurd z e, rfl⟩
theorem readP_step {v k i : Nat} {l : List Int} {ci : Vbdead.Cal} {ns : List Int} (hi : i < k) (e : (l.drop (i * wid v)).take (wid v) = ns) :
    readP v (k - i) ci (l.drop (i * wid v)) = match spotOf v ns with
      | none => none
      | some s => if Vbdead.sound (app ci s) = true then readP v (k - (i + 1)) (app ci s) (l.drop ((i + 1) * wid v)) else none := by
  (rw [show k - i = (k - (i + 1)) + 1 by omega, readP, e, List.drop_drop, Nat.succ_mul]) <;> (cases spotOf v ns <;> rfl)
def sp_read_chain (D : Ads) : Sp := fun vs H Q _ => ∃ c m cal q, ∃ (v k : Nat) (l : List Int), vs = [.ref c, .int (v : Int), .ref q] ∧ CalAt D H c m cal ∧ v < 4 ∧ H q = some (.lst (l.map V.int)) ∧ ¬ m.owns c q ∧ l.length = k * wid v ∧ l.length ≤ 16000 ∧
  (readP v k cal l = none → ∀ H' m', Kept c m H m' H' → Q (.bl false) H') ∧ ∀ d, readP v k cal l = some d → ∀ H' m', CalAt D H' c m' d → Kept c m H m' H' → Q (.bl true) H'
theorem Kept.same {c : Addr} {m : M} {H H' : Hp} (s : Same H H') : Kept c m H m H' := fun b o e n => ⟨s b o e, n⟩
set_option maxHeartbeats 1000000 in
theorem ok_read_chain (T : Txt K mg D) : FnOk P w K mg base CX0 4 D.f_read_chain D.d_read_chain ["calendar", "chain", "numbers"] (sp_read_chain D) := by
  refine T.F_read_chain.ok sc_read_chain (fun vs H Q E h => ?_) (fun cdv A outer s H vs Q E hr h => ?_)
  · obtain ⟨c, m, cal, q, v, k, l, rfl, _⟩ := h
    rfl
  · obtain ⟨c, m, cal, q, v, k, l, rfl, CA, hv, hq, no, hl, hl2, k1, k2⟩ := h
    refine ⟨_, pss_cons (ps_set (i := 3) sc_read_chain.nd rfl (Or.inl rfl) (pe_ix ix_tup (pe_glob (v := .ref D.a_WIDTHS) rfl T.u_WIDTHS.mg rfl) (pv 1) (fun _ _ => rfl)))
      (pss_cons (ps_for PassesOwn.never rfl (pi_range3 rfl T.n_range (pa_cons pe_int (pa_cons (pe_callB call_len_seq rfl T.n_len PySem.boot_len (pa_cons (pv 2) pa_nil)) (pa_cons (pv 3) pa_nil)))) (pg_name (i := 4) sc_read_chain.nd rfl (Or.inl rfl)) (pss_cons (ps_set (i := 5) sc_read_chain.nd rfl (Or.inl rfl) (pe_call (ok_thing_from T) (hr.mono (by decide)) rfl T.g_thing_from T.F_thing_from.kp T.b_thing_from .nil pass0 (pa_cons (pv 1) (pa_cons (pe_slice sl_list (pv 2) (po_some (pv 4)) (po_some (pe_op op_add (pv 4) (pv 3)))) pa_nil))))
      (pss_cons (ps_if (pt_not (pt_val (pe_call (ok_may_be_last T) (hr.mono (by decide)) rfl T.g_may_be_last T.F_may_be_last.kp T.b_may_be_last .nil pass0 (pa_cons (pv 0) (pa_cons (pv 5) pa_nil))))) (pss_one (ps_ret pe_bl)) pss_nil)
      (pss_cons (ps_dput (hu_of hr) (pe_fld (pv 0) rfl) (pe_fld (pv 5) rfl) (pv 5) rfl)
      (pss_one (ps_expr (pe_bm PySem.F.plainAttrs_list PySem.F.slot_list_append PySem.F.type_list_append mt_append (pe_ix ix_list (pe_fld (pv 0) rfl) (pv 1) (fun _ _ => rfl)) (pa_cons (pe_fld (pv 5) rfl) pa_nil))))))))
      (pss_one (ps_ret pe_bl))), ?_⟩
    refine ⟨_, rfl, D.a_WIDTHS, _, _, _, rfl, rfl, T.u_WIDTHS.sq H, at_wid hv, ?_⟩
    refine ⟨_, rfl, q, _, rfl, .inl (SqL.of hq), _, rfl, 0, _, _, k, rfl, rngW (v := v) (by rw [List.length_map]; exact hl) (by rw [List.length_map]; exact hl2), ?_⟩
    refine for_rangeC (fun i σ H' => ∃ v4 v5 m' ci, σ = [some (.ref c), some (.int (v : Int)), some (.ref q), some (.int ((wid v : Nat) : Int)), v4, v5] ∧ CalAt D H' c m' ci ∧ Kept c m H m' H' ∧ readP v k cal l = readP v (k - i) ci (l.drop (i * wid v)))
      ⟨none, none, m, cal, rfl, CA, Kept.refl, by rw [Nat.zero_mul, List.drop_zero, Nat.sub_zero]⟩ ?_ ?_
    · rintro i σ H' hi ⟨v4, v5, m', ci, rfl, A1, K1, er⟩
      obtain ⟨ns, a, b, x, y, hns, n0, n1, n2, n3, esp⟩ := chunk_at hl hi
      rw [readP_step hi hns, esp] at er
      have ei : (0 : Int) + (i : Nat) * ((wid v : Nat) : Int) = ((i * wid v : Nat) : Int) := by rw [Int.natCast_mul]; omega
      have ei2 : (0 : Int) + (i : Nat) * ((wid v : Nat) : Int) + ((wid v : Nat) : Int) = ((i * wid v + wid v : Nat) : Int) := by rw [ei, Int.natCast_add]
      have hq1 := K1 q _ hq no
      refine ⟨_, rfl, _, rfl, _, rfl, _, rfl, _, rfl, _, rfl, _, _, rfl, rfl, _, rfl, q, _, rfl, SqL.of hq1.1, fun p hp => ?_⟩
      rw [ei, ← Int.natCast_add, cut_mid, ← List.map_drop, ← List.map_take, hns]
      have L := A1.laid (o := .lst (ns.map V.int)) hp
      refine ⟨p, v, ns, a, b, x, y, rfl, upd_same, n0, n1, n2, n3, fun H2 pt s2 ht hpt => ?_⟩
      have A2 : CalAt D H2 c m' ci := ⟨L.1.rep.same s2, A1.good⟩
      have K2 : Kept c m H m' H2 := K1.trans (L.2.trans (Kept.same s2))
      have npt : ¬ m'.owns c pt := L.1.rep.fresh hpt
      have hchn : (thN v a b x y).chn = v := rfl
      refine ⟨_, rfl, _, rfl, c, m', pt, thN v a b x y, rfl, A2.rep, ht, hv, fun j hj => ?_, _, rfl, ?_⟩
      · have hj : j ∈ m'.row v := hj
        rw [A2.good.row v hv] at hj
        obtain ⟨s, hs, rfl⟩ := List.mem_map.mp hj
        obtain ⟨b', hb'⟩ := M.get_of_th (A2.good.thAt hs)
        exact ⟨b', _, hb'⟩
      cases es : spotN v a b x y with
      | none =>
        rw [es] at er
        rw [spotN_none hv (by rw [A2.good.clk]; omega) es]
        exact iteT (k1 er H2 m' K2)
      | some s =>
        rw [es] at er
        obtain ⟨eth, esw, hu⟩ := spotN_some hv es
        rw [eth]
        by_cases hs : Vbdead.sound (app ci s) = true
        case neg =>
          have : mayB m'.clock m'.row m'.th m'.n (thOf s) = false := by
            cases e : mayB m'.clock m'.row m'.th m'.n (thOf s) with
            | false => rfl
            | true => exact absurd (sound_iff.mpr ((may_ok A2.good hu).mp e)) hs
          rw [this]
          have er : readP v k cal l = none := by rw [er]; exact if_neg hs
          exact iteT (k1 er H2 m' K2)
        have sn := sound_iff.mp hs
        have er : readP v k cal l = readP v (k - (i + 1)) (app ci s) (l.drop ((i + 1) * wid v)) := by rw [er]; exact if_pos hs
        rw [(may_ok A2.good hu).mpr sn]
        refine iteF ?_
        have fi := sn.fits
        obtain ⟨dc2, hc2⟩ := A2.rep.cal
        obtain ⟨kvs, hd, q1, q2, q3⟩ := A2.rep.dic
        have hgn : m'.get (sidI s) = none := M.get_none (A2.good.toNone fi.new)
        rw [eth] at ht
        have hnum := num_thOf s
        obtain ⟨dt, hpt2⟩ := ht
        refine ⟨_, rfl, _, rfl, c, D.c_Calendar, dc2, _, _, rfl, hc2, T.l_Calendar, T.n_Calendar_things, rfl, _, rfl, pt, D.c_Thing, dt, _, _, rfl, hpt2, T.l_Thing, T.n_Thing_number, rfl, m'.d, _, rfl, DPut.k (k := Sum.inl (thOf s).num) hd ?_, ?_⟩
        · have h1 := A2.good.n
          have h2 := fi.room
          exact Nat.lt_of_lt_of_le (show kvs.length < 2000 by omega) (by decide)
        rw [hnum]
        have R3 := A2.rep.addTh (t := thOf s) hd hgn ⟨dt, hpt2⟩ hnum npt
        have K3 : Kept c m' (upd H' p (.lst (ns.map V.int))) { m' with get := at1 m'.get (sidI s) (some (pt, thOf s)), n := m'.n + 1 } (upd H2 m'.d (.dK (putK kvs (Sum.inl (sidI s)) (.ref pt)))) := Kept.addTh (Kept.same s2) hpt hgn
        obtain ⟨dc3, hc3⟩ := R3.cal
        have hpt3 : upd H2 m'.d (.dK (putK kvs (Sum.inl (sidI s)) (.ref pt))) pt = some (.ins D.c_Thing dt (thF (thOf s))) := by
          rw [upd_ne (fun z => npt (.inr (.inl z)))]; exact hpt2
        have hrow := R3.row v hv
        have hlen := A2.good.rowLen hv
        refine ⟨_, rfl, c, D.c_Calendar, dc3, _, _, rfl, hc3, T.l_Calendar, T.n_Calendar_chains, rfl, _, rfl, m'.l, _, _, _, rfl, rfl, SqL.of R3.out, at_rows hv, .inl ⟨rfl, _, SqL.of hrow⟩, ?_⟩
        refine ⟨_, rfl, pt, D.c_Thing, dt, _, _, rfl, hpt3, T.l_Thing, T.n_Thing_number, rfl, m'.ra v, _, _, rfl, rfl, hrow, ?_, ?_⟩
        · rw [List.length_map]; exact small2000 hlen
        have R4 := R3.setRow hv (m'.row v ++ [(thOf s).num])
        have em : (m'.row v).map V.int ++ [V.int (thOf s).num] = (m'.row v ++ [(thOf s).num]).map V.int := by rw [List.map_append]; rfl
        refine ⟨_, _, { m' with get := at1 m'.get (sidI s) (some (pt, thOf s)), n := m'.n + 1, row := at1 m'.row v (m'.row v ++ [(thOf s).num]) }, app ci s, rfl, ⟨?_, ?_⟩, ?_, er⟩
        · show Rep D (upd _ (m'.ra v) (.lst ((m'.row v).map V.int ++ [V.int (thOf s).num]))) c _
          rw [em]
          exact R4.1
        · have := A2.good.apped fi
          unfold lastRow at this
          rw [chn_thOf, esw] at this
          show Good _ m'.clock (at1 m'.row v (m'.row v ++ [(thOf s).num])) (fun j => (at1 m'.get (sidI s) (some (pt, thOf s)) j).map Prod.snd) (m'.n + 1)
          rw [th_at1]; exact this
        · show Kept c m H _ (upd _ (m'.ra v) (.lst ((m'.row v).map V.int ++ [V.int (thOf s).num])))
          rw [em]
          exact K1.trans (L.2.trans (K3.trans R4.2))
    · rintro σ H' ⟨v4, v5, m', ci, rfl, A1, K1, er⟩
      rw [Nat.sub_self] at er
      exact k2 ci er H' m' A1 K1
end
end WP
end
section
set_option Elab.async false
set_option linter.all false
set_option maxRecDepth 100000
namespace WP
open PySem PySem.Spec PyProof.Rows L2 WM
section
variable {P : Program} {w : World} {K : PySem.W.Frag} {mg : Str → Option Value} {base : Heap} {D : Ads}
theorem four_at {i : Nat} {x : V} (h : [V.int 0, V.int 1, V.int 2, V.int 3][i]? = some x) : i < 4 ∧ x = .int (i : Int) := by
  match i, h with
  | 0, h => exact ⟨by decide, (Option.some.inj h).symm⟩
  | 1, h => exact ⟨by decide, (Option.some.inj h).symm⟩
  | 2, h => exact ⟨by decide, (Option.some.inj h).symm⟩
  | 3, h => exact ⟨by decide, (Option.some.inj h).symm⟩
theorem drop_four {i : Nat} (h : i < 4) : [0, 1, 2, 3].drop i = i :: [0, 1, 2, 3].drop (i + 1) := by
  match i, h with
  | 0, _ => rfl
  | 1, _ => rfl
  | 2, _ => rfl
  | 3, _ => rfl
theorem goP_step {v : Nat} {ws : List Nat} {c : Vbdead.Cal} {n : Int} {r : List Int} (h : 0 ≤ n ∧ n.toNat * wid v ≤ r.length) : goP (v :: ws) c (n :: r) = match readP v n.toNat c r with
    | none => none
    | some d => goP ws d (r.drop (n.toNat * wid v)) := by
  rw [goP, chainP, if_pos h]
  cases readP v n.toNat c r <;> rfl
theorem goP_no {v : Nat} {ws : List Nat} {c : Vbdead.Cal} {n : Int} {r : List Int} (h : ¬ (0 ≤ n ∧ n.toNat * wid v ≤ r.length)) : goP (v :: ws) c (n :: r) = none := by
  rw [goP, chainP, if_neg h]
def sp_calendar_from (D : Ads) : Sp := fun vs H Q _ => ∃ q, ∃ row : List Int, vs = [.ref q] ∧ H q = some (.lst (row.map V.int)) ∧ row.length ≤ 16000 ∧ (loadP row = none → ∀ H', Same H H' → Q .non H') ∧
  ∀ d, loadP row = some d → ∀ H' x m', CalAt D H' x m' d → (∀ b o, H b = some o → H' b = some o ∧ ¬ m'.owns x b) → Q (.ref x) H'
set_option maxHeartbeats 1000000 in
theorem ok_calendar_from (T : Txt K mg D) : FnOk P w K mg base CX0 5 D.f_calendar_from D.d_calendar_from ["row"] (sp_calendar_from D) := by
  refine T.F_calendar_from.ok sc_calendar_from (fun vs H Q E h => ?_) (fun cdv A outer s H vs Q E hr h => ?_)
  · obtain ⟨q, row, rfl, _⟩ := h
    rfl
  · obtain ⟨q, row, rfl, hq, hl, k1, k2⟩ := h
    refine ⟨_, pss_cons (ps_if (PW.pt (pw_or (pt_cmpR op_eq (pe_callB call_len_seq rfl T.n_len PySem.boot_len (pa_cons (pv 0) pa_nil)) pe_int (nomark _)) (pw_or1 (pt_not (pt_chain op_le op_le pe_int (pe_ix ix_list (pv 0) pe_int (fun _ _ => rfl)) (pe_glob (v := .int (1000000000000000)) rfl T.c_END ⟨_, rfl⟩)))))) (pss_one (ps_ret pe_non)) pss_nil)
      (pss_cons (ps_set (i := 1) sc_calendar_from.nd rfl (Or.inl rfl) (pe_make0 T.m_Calendar (ok_Calendar_init T) (hr.mono (by decide)) rfl T.g_Calendar T.b_Calendar_init .nil pass0))
      (pss_cons (ps_fld (pv 1) (pe_ix ix_list (pv 0) pe_int (fun _ _ => rfl)) rfl)
      (pss_cons (ps_set (i := 2) sc_calendar_from.nd rfl (Or.inl rfl) pe_int)
      (pss_cons (ps_for PassesOwn.never rfl (pi_tup (pe_tup (pa_cons (pe_glob (v := .int (0)) rfl T.c_CURRENT ⟨_, rfl⟩) (pa_cons (pe_glob (v := .int (1)) rfl T.c_FUTURE ⟨_, rfl⟩) (pa_cons (pe_glob (v := .int (2)) rfl T.c_FROZEN ⟨_, rfl⟩) (pa_cons (pe_glob (v := .int (3)) rfl T.c_ASLEEP ⟨_, rfl⟩) pa_nil)))))) (pg_name (i := 3) sc_calendar_from.nd rfl (Or.inl rfl)) (pss_cons (ps_set (i := 4) sc_calendar_from.nd rfl (Or.inl rfl) (pe_call (ok_chain_end T) (hr.mono (by decide)) rfl T.g_chain_end T.F_chain_end.kp T.b_chain_end .nil pass0 (pa_cons (pv 0) (pa_cons (pv 2) (pa_cons (pe_ix ix_tup (pe_glob (v := .ref D.a_WIDTHS) rfl T.u_WIDTHS.mg rfl) (pv 3) (fun _ _ => rfl)) pa_nil)))))
      (pss_cons (ps_if (PW.pt (pw_or (pt_cmp (pc_isN (pv 4))) (pw_or1 (pt_not (pt_val (pe_call (ok_read_chain T) (hr.mono (by decide)) rfl T.g_read_chain T.F_read_chain.kp T.b_read_chain .nil pass0 (pa_cons (pv 1) (pa_cons (pv 3) (pa_cons (pe_slice sl_list (pv 0) (po_some (pe_op op_add (pv 2) pe_int)) (po_some (pv 4))) pa_nil))))))))) (pss_one (ps_ret pe_non)) pss_nil)
      (pss_one (ps_set (i := 2) sc_calendar_from.nd rfl (Or.inl rfl) (pv 4))))))
      (pss_cons (ps_if (pt_cmpR op_ne (pv 2) (pe_callB call_len_seq rfl T.n_len PySem.boot_len (pa_cons (pv 0) pa_nil)) (nomark _)) (pss_one (ps_ret pe_non)) pss_nil)
      (pss_one (ps_ret (pv 1)))))))), ?_⟩
    refine ⟨_, rfl, q, _, rfl, .inl (SqL.of hq), rfl, _, rfl, iteI (fun e => ?_) (fun e => ?_)⟩
    · have e : row = [] := by
        rw [List.length_map] at e
        exact List.eq_nil_of_length_eq_zero (by omega)
      subst e
      exact iteT (k1 rfl H fun _ _ e => e)
    cases row with
    | nil => exact absurd rfl e
    | cons t l =>
    have bad : ¬ (0 ≤ t ∧ t ≤ 1000000000000000) → Q .non H := fun z => k1 (by rw [loadP, if_neg z]) H fun _ _ e => e
    refine ⟨_, rfl, q, _, _, .int t, rfl, rfl, SqL.of hq, at_map (j := 0) rfl, _, _, rfl, rfl, _, rfl, iteD (fun h1 => ⟨_, _, rfl, rfl, _, rfl, ?_⟩) (fun h1 => ⟨_, rfl, iteT (bad fun z => h1 z.1)⟩)⟩
    by_cases h2 : t ≤ 1000000000000000
    case neg =>
      rw [decide_eq_false h2]
      exact iteT (bad fun z => h2 z.2)
    rw [decide_eq_true h2]
    refine iteF ?_
    have elp : loadP (t :: l) = goP [0, 1, 2, 3] (bare t.toNat) l := by rw [loadP, if_pos ⟨h1, h2⟩]
    refine fun x dx nx nd ne => ⟨x, dx, rfl, upd_same, fun H1 m A1 K1 => ⟨rfl, ?_⟩⟩
    have s1 : ∀ b o, H b = some o → H1 b = some o ∧ ¬ m.owns x b := fun b o e => K1 b o (by rw [upd_ne (ne_of_none e nx), upd_ne (ne_of_none e nd)]; exact e) (ne_of_none e nx)
    obtain ⟨dc1, hc1⟩ := A1.rep.cal
    refine ⟨_, rfl, q, _, _, .int t, rfl, rfl, SqL.of (s1 _ _ hq).1, at_map (j := 0) rfl, _, rfl, x, D.c_Calendar, dc1, _, rfl, hc1, T.l_Calendar, T.n_Calendar_clock, (by show 3 < 1000; decide), ?_⟩
    have et : ((t.toNat : Nat) : Int) = t := by omega
    have R2 := A1.rep.setClock dc1 t
    have G2 := A1.good.leap (t := t.toNat) (Nat.zero_le _) (by omega) (fun y hy => by cases hy)
    rw [et] at G2
    generalize hH2 : upd H1 x (.ins D.c_Calendar dc1 (putF "clock" (.int t) (calF m.clock m.d m.l))) = H2
    have R2' : Rep D H2 x { m with clock := t } ∧ Kept x m H1 { m with clock := t } H2 := by rw [← hH2]; exact R2
    have A2 : CalAt D H2 x { m with clock := t } (bare t.toNat) := ⟨R2'.1, G2⟩
    have s2 : ∀ b o, H b = some o → H2 b = some o ∧ ¬ ({ m with clock := t } : M).owns x b := fun b o e => R2'.2 b o (s1 b o e).1 (s1 b o e).2
    refine ⟨(by show 4 ≤ sizeLine; decide), fun p hp => ⟨p, rfl, ⟨_, SqT.of upd_same⟩, ?_⟩⟩
    have L3 := A2.laid (o := .tup [.int 0, .int 1, .int 2, .int 3]) hp
    have np := A2.rep.fresh hp
    generalize hH3 : upd H2 p (.tup [.int 0, .int 1, .int 2, .int 3]) = H3 at L3
    have hp3 : H3 p = some (.tup [.int 0, .int 1, .int 2, .int 3]) := by rw [← hH3]; exact upd_same
    have s3 : ∀ b o, H b = some o → H3 b = some o ∧ ¬ ({ m with clock := t } : M).owns x b := fun b o e => L3.2 b o (s2 b o e).1 (s2 b o e).2
    generalize hm3 : ({ m with clock := t } : M) = m3 at *
    refine for_tup (xs := [.int 0, .int 1, .int 2, .int 3]) (fun i σ H' => ∃ (st : Nat) (v3 v4 : Option V) (m' : M) (ci : Vbdead.Cal), σ = [some (.ref q), some (.ref x), some (.int (st : Int)), v3, v4] ∧ CalAt D H' x m' ci ∧ Kept x m3 H3 m' H' ∧
      loadP (t :: l) = goP ([0, 1, 2, 3].drop i) ci ((t :: l).drop st) ∧ st ≤ (t :: l).length)
      ⟨1, none, none, m3, bare t.toNat, rfl, L3.1, Kept.refl, elp, by rw [List.length_cons]; omega⟩ ?_ ?_ ?_
    · rintro i σ H' _ ⟨st, v3, v4, m', ci, rfl, A4, K4, eg, hst⟩
      exact SqT.of (K4 p _ hp3 np).1
    · rintro i xv σ H' hx ⟨st, v3, v4, m', ci, rfl, A4, K4, eg, hst⟩
      obtain ⟨hi, rfl⟩ := four_at hx
      have s4 : ∀ b o, H b = some o → H' b = some o ∧ ¬ m'.owns x b := fun b o e => K4 b o (s3 b o e).1 (s3 b o e).2
      have no4 : loadP (t :: l) = none → Q .non H' := fun z => k1 z H' fun b o e => (s4 b o e).1
      rw [drop_four hi] at eg
      refine ⟨_, rfl, _, rfl, _, rfl, D.a_WIDTHS, _, _, _, rfl, rfl, T.u_WIDTHS.sq _, at_wid hi, q, t :: l, st, wid i, rfl, (s4 _ _ hq).1, wid_pos i, (by rcases wid_small i with z | z <;> omega), hl, ?_⟩
      unfold endV
      cases ed : (t :: l).drop st with
      | nil =>
        rw [ed] at eg
        refine ⟨_, rfl, _, rfl, iteT (iteT (no4 ?_))⟩
        rw [eg]; rfl
      | cons n r =>
      rw [ed] at eg
      simp only
      by_cases hn : 0 ≤ n ∧ n.toNat * wid i ≤ r.length
      case neg =>
        rw [if_neg hn]
        refine ⟨_, rfl, _, rfl, iteT (iteT (no4 ?_))⟩
        rw [eg, goP_no hn]
      rw [if_pos hn]
      rw [goP_step hn] at eg
      have er : (t :: l).drop (st + 1) = r := by rw [← List.drop_drop, ed]; rfl
      have hrl : r.length = (t :: l).length - (st + 1) := by rw [← er, List.length_drop]
      have hst1 : st < (t :: l).length := by
        by_cases z : st < (t :: l).length
        · exact z
        · rw [List.drop_of_length_le (by omega)] at ed; cases ed
      refine ⟨_, rfl, _, rfl, iteF ?_⟩
      refine ⟨_, rfl, _, rfl, _, rfl, _, rfl, _, _, rfl, rfl, _, rfl, _, rfl, _, rfl, q, _, rfl, SqL.of (s4 _ _ hq).1, fun p2 hp2 => ?_⟩
      have ecut : cutV ((t :: l).map V.int) (some ((st : Int) + 1)) (some ((st + 1 + n.toNat * wid i : Nat) : Int)) = (r.take (n.toNat * wid i)).map V.int := by
        rw [show (st : Int) + 1 = ((st + 1 : Nat) : Int) by omega, cut_mid, ← List.map_drop, ← List.map_take, er]
      rw [ecut]
      have L5 := A4.laid (o := .lst ((r.take (n.toNat * wid i)).map V.int)) hp2
      have hlt : (r.take (n.toNat * wid i)).length = n.toNat * wid i := by rw [List.length_take]; omega
      refine ⟨x, m', ci, p2, i, n.toNat, r.take (n.toNat * wid i), rfl, L5.1, hi, upd_same, A4.rep.fresh hp2, hlt, by omega, fun ez H5 m5 K5 => ?_, fun d ez H5 m5 A5 K5 => ?_⟩
      · rw [readP_take] at ez
        rw [ez] at eg
        exact ⟨_, rfl, iteT (k1 eg H5 fun b o e => ((L5.2.trans K5) b o (s4 b o e).1 (s4 b o e).2).1)⟩
      · rw [readP_take] at ez
        rw [ez] at eg
        refine ⟨_, rfl, iteF ⟨_, rfl, st + 1 + n.toNat * wid i, _, _, m5, d, rfl, A5, K4.trans (L5.2.trans K5), ?_, by omega⟩⟩
        have e9 : (t :: l).drop (st + 1 + n.toNat * wid i) = r.drop (n.toNat * wid i) := by rw [← er, List.drop_drop]
        rw [eg, e9]
    · rintro σ H' ⟨st, v3, v4, m', ci, rfl, A4, K4, eg, hst⟩
      have s4 : ∀ b o, H b = some o → H' b = some o ∧ ¬ m'.owns x b := fun b o e => K4 b o (s3 b o e).1 (s3 b o e).2
      have eg : loadP (t :: l) = if (t :: l).drop st = [] then some ci else none := eg
      refine ⟨_, rfl, _, rfl, q, _, rfl, .inl (SqL.of (s4 _ _ hq).1), rfl, _, rfl, iteN (fun e => ?_) (fun e => ?_)⟩
      · rw [List.length_map] at e
        refine k1 ?_ H' fun b o e => (s4 b o e).1
        rw [eg, if_neg]
        intro z
        have := congrArg List.length z
        rw [List.length_drop, List.length_nil] at this
        omega
      · rw [List.length_map] at e
        refine ⟨_, rfl, k2 ci ?_ H' x m' A4 s4⟩
        rw [eg, if_pos (List.drop_of_length_le (by omega))]

/-! ### load, clear -/
def sp_load (D : Ads) : Sp := fun vs H Q _ => ∃ c m cal q, ∃ row : List Int, vs = [.ref c, .ref q] ∧ CalAt D H c m cal ∧ H q = some (.lst (row.map V.int)) ∧ ¬ m.owns c q ∧ row.length ≤ 16000 ∧ Done D c m H (Vbdead.step cal (.load row)).1 (Vbdead.step cal (.load row)).2 Q
theorem ok_load (T : Txt K mg D) : FnOk P w K mg base CX0 6 D.f_load D.d_load ["calendar", "row"] (sp_load D) := by
  refine T.F_load.ok sc_load (fun vs H Q E h => ?_) (fun cdv A outer s H vs Q E hr h => ?_)
  · obtain ⟨c, m, cal, q, row, rfl, _⟩ := h
    rfl
  · obtain ⟨c, m, cal, q, row, rfl, CA, hq, ho, hl, k⟩ := h
    obtain ⟨dc, hc⟩ := CA.rep.cal
    refine ⟨_, pss_cons (ps_set (i := 2) sc_load.nd rfl (Or.inl rfl) (pe_call (ok_calendar_from T) (hr.mono (by decide)) rfl T.g_calendar_from T.F_calendar_from.kp T.b_calendar_from .nil pass0 (pa_cons (pv 1) pa_nil)))
      (pss_cons (ps_if (pt_cmp (pc_isN (pv 2))) (pss_one (ps_ret (pe_lst (pa_cons (pe_glob (v := .int (-14)) rfl T.c_BAD_STATE ⟨_, rfl⟩) pa_nil)))) pss_nil)
      (pss_cons (ps_expr (pe_call (ok_become T) (hr.mono (by decide)) rfl T.g_become T.F_become.kp T.b_become .nil pass0 (pa_cons (pv 0) (pa_cons (pv 2) pa_nil))))
      (pss_one (ps_ret (pe_lst (pa_cons (pe_glob (v := .int (0)) rfl T.c_DONE ⟨_, rfl⟩) pa_nil)))))), ?_⟩
    refine ⟨_, rfl, q, row, rfl, hq, hl, fun e H1 s1 => ?_, fun d e H1 x m1 A1 K1 => ?_⟩
    · rw [loadP_eq] at e
      exact ⟨_, rfl, _, rfl, iteT ⟨by decide, k.yes (cal := cal) (ans := [-14]) (st_load_no e) ⟨CA.rep.same s1, CA.good⟩ (Kept.same s1)⟩⟩
    · rw [loadP_eq] at e
      have hc1 := K1 c _ hc
      refine ⟨_, rfl, _, rfl, iteF ⟨_, rfl, _, rfl, c, x, dc, _, _, _, m1, d, rfl, hc1.1, A1, hc1.2, fun H2 A2 s2 => ⟨by decide, k.yes (ans := [0]) (st_load_ok e) A2 fun b o e n => ?_⟩⟩⟩
      have hb := K1 b o e
      have nbc : b ≠ c := fun z => n (.inl z)
      refine ⟨s2 b o hb.1 nbc, fun z => ?_⟩
      rcases z with z | z
      · exact nbc z
      · exact hb.2 (.inr z)
def sp_clear (D : Ads) : Sp := sp_call0 D .clear
theorem ok_clear (T : Txt K mg D) : FnOk P w K mg base CX0 3 D.f_clear D.d_clear ["calendar"] (sp_clear D) := by
  refine T.F_clear.ok sc_clear (fun vs H Q E h => ?_) (fun cdv A outer s H vs Q E hr h => ?_)
  · obtain ⟨c, m, cal, rfl, _⟩ := h
    rfl
  · obtain ⟨c, m, cal, rfl, CA, k⟩ := h
    obtain ⟨dc, hc⟩ := CA.rep.cal
    refine ⟨_, pss_cons (ps_expr (pe_call (ok_become T) (hr.mono (by decide)) rfl T.g_become T.F_become.kp T.b_become .nil pass0 (pa_cons (pv 0) (pa_cons (pe_make0 T.m_Calendar (ok_Calendar_init T) (hr.mono (by decide)) rfl T.g_Calendar T.b_Calendar_init .nil pass0) pa_nil))))
      (pss_one (ps_ret (pe_lst (pa_cons (pe_glob (v := .int (0)) rfl T.c_DONE ⟨_, rfl⟩) pa_nil)))), ?_⟩
    refine ⟨_, rfl, fun x dx nx nd ne => ⟨x, dx, rfl, upd_same, fun H1 m1 A1 K1 => ⟨rfl, ?_⟩⟩⟩
    have s1 : ∀ b o, H b = some o → H1 b = some o ∧ ¬ m1.owns x b := fun b o e => K1 b o (by rw [upd_ne (ne_of_none e nx), upd_ne (ne_of_none e nd)]; exact e) (ne_of_none e nx)
    have hc1 := s1 c _ hc
    refine ⟨c, x, dc, _, _, _, m1, Vbdead.start, rfl, hc1.1, A1, hc1.2, fun H2 A2 s2 => ⟨by decide, k.yes (ans := [0]) rfl A2 fun b o e n => ?_⟩⟩
    have hb := s1 b o e
    have nbc : b ≠ c := fun z => n (.inl z)
    refine ⟨s2 b o hb.1 nbc, fun z => ?_⟩
    rcases z with z | z
    · exact nbc z
    · exact hb.2 (.inr z)
end
end WP
end
section
set_option Elab.async false
set_option linter.all false
set_option maxRecDepth 100000
namespace WP
open PySem PySem.Spec PyProof.Rows L2 WM
section
variable {P : Program} {w : World} {K : PySem.W.Frag} {mg : Str → Option Value} {base : Heap} {D : Ads}
def sp_has_row (D : Ads) : Sp := fun vs H Q _ => ∃ p : Int, vs = [.int p] ∧ Q (.bl (decide (p = 1 ∨ p = 23))) H
theorem ok_has_row (T : Txt K mg D) : FnOk P w K mg base CX0 1 D.f_has_row D.d_has_row ["place"] (sp_has_row D) := by
  refine T.F_has_row.ok sc_has_row (fun vs H Q E h => ?_) (fun cdv A outer s H vs Q E hr h => ?_)
  · obtain ⟨p, rfl, _⟩ := h
    rfl
  · obtain ⟨p, rfl, k⟩ := h
    refine ⟨_, pss_one (ps_ret (pe_or (pe_cmpR op_eq (pv 0) (pe_glob (v := .int (1)) rfl T.c_JOINALL ⟨_, rfl⟩) (nomark _)) (pe_one (pe_cmpR op_eq (pv 0) (pe_glob (v := .int (23)) rfl T.c_LOAD ⟨_, rfl⟩) (nomark _))))), ?_⟩
    refine ⟨_, rfl, rfl, _, rfl, iteI (fun e => ?_) (fun e => ?_)⟩
    · rw [decide_eq_true (show p = 1 ∨ p = 23 from .inl e)] at k; exact k
    · refine ⟨_, rfl, rfl, ?_⟩
      rw [show decide (p = 1 ∨ p = 23) = decide (V.int p = V.int 23) from dec_eq ⟨fun z => by rcases z with z | z; exact absurd z e; exact congrArg V.int z, fun z => .inr (V.int.inj z)⟩] at k
      exact k
abbrev counts : List (Int × Int) := [(0, 2), (2, 2), (3, 2), (4, 2), (5, 1), (6, 1), (7, 1), (8, 2), (9, 1), (10, 1), (11, 1), (12, 1), (13, 0), (14, 0), (15, 0), (16, 1), (17, 1), (18, 1), (19, 1), (20, 0), (21, 0), (22, 0), (24, 0)]
theorem counts_at {p : Int} (h0 : 0 ≤ p ∧ p ≤ 24) (h1 : ¬ (p = 1 ∨ p = 23)) : ∃ n : Nat, PyVbdead.shape p = some (n, 0) ∧ counts.lookup p = some (n : Int) := by
  have key : ∀ k : Nat, k < 25 → k ≠ 1 → k ≠ 23 → (PyVbdead.shape (k : Int) = some (((counts.lookup (k : Int)).getD 0).toNat, 0) ∧ counts.lookup (k : Int) = some ((((counts.lookup (k : Int)).getD 0).toNat : Nat) : Int)) := by decide +kernel
  obtain ⟨k, rfl⟩ : ∃ k : Nat, p = (k : Int) := ⟨p.toNat, by omega⟩
  obtain ⟨a, b⟩ := key k (by omega) (by omega) (by omega)
  exact ⟨_, a, b⟩
theorem shape_row {p : Int} (h : p = 1 ∨ p = 23) : PyVbdead.shape p = some (0, 1) := by rcases h with rfl | rfl <;> rfl
theorem nth_of_drop {l : List Int} {i : Nat} {p : Int} {r : List Int} (h : l.drop i = p :: r) (j : Nat) : l[i + j]? = (p :: r)[j]? := by rw [← h, List.getElem?_drop]
theorem at_drop {l : List Int} {i j : Nat} {p a : Int} {r : List Int} (h : l.drop i = p :: r) (e : (p :: r)[j]? = some a) {z : Int} (hz : z = ((i + j : Nat) : Int)) : atI (l.map V.int) z = some (.int a) := by
  subst hz
  refine at_map ?_
  rw [nth_of_drop h, e]
theorem len_of_drop {l : List Int} {i : Nat} {p : Int} {r : List Int} (h : l.drop i = p :: r) : l.length = i + 1 + r.length := by
  have := congrArg List.length h
  rw [List.length_drop, List.length_cons] at this
  omega
theorem ok_call_end (T : Txt K mg D) : FnOk P w K mg base CX0 2 D.f_call_end D.d_call_end ["calls", "start"] (sp_call_end D K) := by
  refine T.F_call_end.ok sc_call_end (fun vs H Q E h => ?_) (fun cdv A outer s H vs Q E hr h => ?_)
  · obtain ⟨q, l, i, p, r, x, t, rfl, _⟩ := h
    rfl
  · obtain ⟨q, l, i, p, r, x, t, rfl, hq, hd, hcall, k⟩ := h
    have hll := len_of_drop hd
    have hsh := shape_of_call hcall
    refine ⟨_, pss_cons (ps_set (i := 2) sc_call_end.nd rfl (Or.inl rfl) (pe_ix ix_list (pv 0) (pv 1) (fun _ _ => rfl)))
      (pss_cons (ps_if (pt_val (pe_call (ok_has_row T) (hr.mono (by decide)) rfl T.g_has_row T.F_has_row.kp T.b_has_row .nil pass0 (pa_cons (pv 2) pa_nil))) (pss_one (ps_ret (pe_op op_add (pe_op op_add (pv 1) pe_int) (pe_ix ix_list (pv 0) (pe_op op_add (pv 1) pe_int) (fun _ _ => rfl))))) pss_nil)
      (pss_one (ps_ret (pe_op op_add (pe_op op_add (pv 1) pe_int) (pe_tab rfl T.t_NUMBER_COUNTS (pv 2) (fun _ _ => rfl)))))), ?_⟩
    refine ⟨_, rfl, _, rfl, q, _, _, .int p, rfl, rfl, hq, at_drop (j := 0) hd rfl rfl, ?_⟩
    refine ⟨_, rfl, p, rfl, _, rfl, iteD (fun h1 => ?_) (fun h1 => ?_)⟩
    · obtain ⟨m, r', rfl, hm, rfl, rfl⟩ := call_row (shape_row h1) hcall
      refine ⟨_, rfl, _, _, rfl, rfl, _, rfl, _, rfl, _, _, rfl, rfl, q, _, _, .int (m : Int), rfl, rfl, hq, at_drop (j := 1) hd rfl rfl, _, _, rfl, rfl, ?_⟩
      rw [List.length_cons] at hll
      rw [List.length_drop, show l.length - (r'.length - m) = i + 2 + m by omega] at k
      show Q (.int ((i : Int) + 2 + (m : Int))) H
      rw [show (i : Int) + 2 + (m : Int) = ((i + 2 + m : Nat) : Int) by omega]
      exact k
    · obtain ⟨n, hs, hc⟩ := counts_at hsh h1
      obtain ⟨hn, rfl, rfl⟩ := call_plain hs hcall
      refine ⟨_, rfl, _, _, rfl, rfl, _, rfl, p, (n : Int), rfl, hc, _, _, rfl, rfl, ?_⟩
      rw [List.length_drop, show l.length - (r.length - n) = i + 1 + n by omega] at k
      show Q (.int ((i : Int) + 1 + (n : Int))) H
      rw [show (i : Int) + 1 + (n : Int) = ((i + 1 + n : Nat) : Int) by omega]
      exact k

/-! ### the calls by their places -/
def sp_answer_row (D : Ads) : Sp := fun vs H Q _ => ∃ c m cal q, ∃ (p : Int) (row : List Int), vs = [.ref c, .int p, .ref q] ∧ CalAt D H c m cal ∧ H q = some (.lst (row.map V.int)) ∧ ¬ m.owns c q ∧ row.length ≤ 16000 ∧ (p = 1 ∨ p = 23) ∧
  Done D c m H (Vbdead.does cal [[p], row]).1 (Vbdead.does cal [[p], row]).2 Q
theorem ok_answer_row (T : Txt K mg D) : FnOk P w K mg base CX0 7 D.f_answer_row D.d_answer_row ["calendar", "place", "row"] (sp_answer_row D) := by
  refine T.F_answer_row.ok sc_answer_row (fun vs H Q E h => ?_) (fun cdv A outer s H vs Q E hr h => ?_)
  · obtain ⟨c, m, cal, q, p, row, rfl, _⟩ := h
    rfl
  · obtain ⟨c, m, cal, q, p, row, rfl, CA, hq, no, hl, hp, k⟩ := h
    refine ⟨_, pss_cons (ps_if (pt_cmpR op_eq (pv 1) (pe_glob (v := .int (1)) rfl T.c_JOINALL ⟨_, rfl⟩) (nomark _)) (pss_one (ps_ret (pe_call (ok_joinall T) (hr.mono (by decide)) rfl T.g_joinall T.F_joinall.kp T.b_joinall .nil pass0 (pa_cons (pv 0) (pa_cons (pv 2) pa_nil))))) pss_nil)
      (pss_one (ps_ret (pe_call (ok_load T) (hr.mono (by decide)) rfl T.g_load T.F_load.kp T.b_load .nil pass0 (pa_cons (pv 0) (pa_cons (pv 2) pa_nil))))), ?_⟩
    refine ⟨_, rfl, rfl, _, rfl, iteI (fun e => ?_) (fun e => ?_)⟩
    · subst e
      exact ⟨_, rfl, _, rfl, c, m, cal, q, row, rfl, CA, hq, no, hl, k⟩
    · have e : p = 23 := by rcases hp with z | z; exact absurd z e; exact z
      subst e
      exact ⟨_, rfl, _, rfl, c, m, cal, q, row, rfl, CA, hq, no, hl, k⟩
def sp_answer_two_numbers (D : Ads) : Sp := fun vs H Q _ => ∃ c m cal, ∃ p a b : Int, vs = [.ref c, .int p, .int a, .int b] ∧ CalAt D H c m cal ∧ (p = 0 ∨ p = 2 ∨ p = 3 ∨ p = 4 ∨ p = 8) ∧
  Done D c m H (Vbdead.does cal [[p, a, b]]).1 (Vbdead.does cal [[p, a, b]]).2 Q
theorem ok_answer_two_numbers (T : Txt K mg D) : FnOk P w K mg base CX0 9 D.f_answer_two_numbers D.d_answer_two_numbers ["calendar", "place", "number", "value"] (sp_answer_two_numbers D) := by
  refine T.F_answer_two_numbers.ok sc_answer_two_numbers (fun vs H Q E h => ?_) (fun cdv A outer s H vs Q E hr h => ?_)
  · obtain ⟨c, m, cal, p, a, b, rfl, _⟩ := h
    rfl
  · obtain ⟨c, m, cal, p, a, b, rfl, CA, hp, k⟩ := h
    refine ⟨_, pss_cons (ps_if (pt_cmpR op_eq (pv 1) pe_int (nomark _)) (pss_one (ps_ret (pe_call (ok_join T) (hr.mono (by decide)) rfl T.g_join T.F_join.kp T.b_join .nil pass0 (pa_cons (pv 0) (pa_cons (pv 2) (pa_cons (pv 3) pa_nil)))))) pss_nil)
      (pss_cons (ps_if (pt_cmpR op_eq (pv 1) pe_int (nomark _)) (pss_one (ps_ret (pe_call (ok_delay T) (hr.mono (by decide)) rfl T.g_delay T.F_delay.kp T.b_delay .nil pass0 (pa_cons (pv 0) (pa_cons (pv 2) (pa_cons (pv 3) pa_nil)))))) pss_nil)
      (pss_cons (ps_if (pt_cmpR op_eq (pv 1) pe_int (nomark _)) (pss_one (ps_ret (pe_call (ok_at T) (hr.mono (by decide)) rfl T.g_at T.F_at.kp T.b_at .nil pass0 (pa_cons (pv 0) (pa_cons (pv 2) (pa_cons (pv 3) pa_nil)))))) pss_nil)
      (pss_cons (ps_if (pt_cmpR op_eq (pv 1) pe_int (nomark _)) (pss_one (ps_ret (pe_call (ok_retime T) (hr.mono (by decide)) rfl T.g_retime T.F_retime.kp T.b_retime .nil pass0 (pa_cons (pv 0) (pa_cons (pv 2) (pa_cons (pv 3) pa_nil)))))) pss_nil)
      (pss_one (ps_ret (pe_call (ok_rank T) (hr.mono (by decide)) rfl T.g_rank T.F_rank.kp T.b_rank .nil pass0 (pa_cons (pv 0) (pa_cons (pv 2) (pa_cons (pv 3) pa_nil))))))))), ?_⟩
    refine ⟨_, rfl, rfl, _, rfl, iteI (fun e => ?_) (fun e0 => ?_)⟩
    · subst e; exact ⟨_, rfl, _, rfl, _, rfl, c, m, cal, a, b, rfl, CA, k⟩
    refine ⟨_, rfl, rfl, _, rfl, iteI (fun e => ?_) (fun e1 => ?_)⟩
    · subst e; exact ⟨_, rfl, _, rfl, _, rfl, c, m, cal, a, b, rfl, CA, k⟩
    refine ⟨_, rfl, rfl, _, rfl, iteI (fun e => ?_) (fun e2 => ?_)⟩
    · subst e; exact ⟨_, rfl, _, rfl, _, rfl, c, m, cal, a, b, rfl, CA, k⟩
    refine ⟨_, rfl, rfl, _, rfl, iteI (fun e => ?_) (fun e3 => ?_)⟩
    · subst e; exact ⟨_, rfl, _, rfl, _, rfl, c, m, cal, a, b, rfl, CA, k⟩
    · have e : p = 8 := by omega
      subst e; exact ⟨_, rfl, _, rfl, _, rfl, c, m, cal, a, b, rfl, CA, k⟩
def sp_answer_one_number (D : Ads) : Sp := fun vs H Q _ => ∃ c m cal, ∃ p a : Int, vs = [.ref c, .int p, .int a] ∧ CalAt D H c m cal ∧ (p = 5 ∨ p = 6 ∨ p = 7 ∨ p = 9 ∨ p = 10 ∨ p = 11 ∨ p = 12 ∨ p = 16 ∨ p = 17 ∨ p = 18 ∨ p = 19) ∧
  Done D c m H (Vbdead.does cal [[p, a]]).1 (Vbdead.does cal [[p, a]]).2 Q
theorem ok_answer_one_number (T : Txt K mg D) : FnOk P w K mg base CX0 8 D.f_answer_one_number D.d_answer_one_number ["calendar", "place", "number"] (sp_answer_one_number D) := by
  refine T.F_answer_one_number.ok sc_answer_one_number (fun vs H Q E h => ?_) (fun cdv A outer s H vs Q E hr h => ?_)
  · obtain ⟨c, m, cal, p, a, rfl, _⟩ := h
    rfl
  · obtain ⟨c, m, cal, p, a, rfl, CA, hp, k⟩ := h
    refine ⟨_, pss_cons (ps_if (pt_cmpR op_eq (pv 1) pe_int (nomark _)) (pss_one (ps_ret (pe_call (ok_sleep T) (hr.mono (by decide)) rfl T.g_sleep T.F_sleep.kp T.b_sleep .nil pass0 (pa_cons (pv 0) (pa_cons (pv 2) pa_nil))))) pss_nil)
      (pss_cons (ps_if (pt_cmpR op_eq (pv 1) pe_int (nomark _)) (pss_one (ps_ret (pe_call (ok_wake T) (hr.mono (by decide)) rfl T.g_wake T.F_wake.kp T.b_wake .nil pass0 (pa_cons (pv 0) (pa_cons (pv 2) pa_nil))))) pss_nil)
      (pss_cons (ps_if (pt_cmpR op_eq (pv 1) pe_int (nomark _)) (pss_one (ps_ret (pe_call (ok_drop T) (hr.mono (by decide)) rfl T.g_drop T.F_drop.kp T.b_drop .nil pass0 (pa_cons (pv 0) (pa_cons (pv 2) pa_nil))))) pss_nil)
      (pss_cons (ps_if (pt_cmpR op_eq (pv 1) pe_int (nomark _)) (pss_one (ps_ret (pe_call (ok_hold T) (hr.mono (by decide)) rfl T.g_hold T.F_hold.kp T.b_hold .nil pass0 (pa_cons (pv 0) (pa_cons (pv 2) pa_nil))))) pss_nil)
      (pss_cons (ps_if (pt_cmpR op_eq (pv 1) pe_int (nomark _)) (pss_one (ps_ret (pe_call (ok_free T) (hr.mono (by decide)) rfl T.g_free T.F_free.kp T.b_free .nil pass0 (pa_cons (pv 0) (pa_cons (pv 2) pa_nil))))) pss_nil)
      (pss_cons (ps_if (pt_cmpR op_eq (pv 1) pe_int (nomark _)) (pss_one (ps_ret (pe_call (ok_fetch T) (hr.mono (by decide)) rfl T.g_fetch T.F_fetch.kp T.b_fetch .nil pass0 (pa_cons (pv 0) (pa_cons (pv 2) pa_nil))))) pss_nil)
      (pss_cons (ps_if (pt_cmpR op_eq (pv 1) pe_int (nomark _)) (pss_one (ps_ret (pe_call (ok_ahead T) (hr.mono (by decide)) rfl T.g_ahead T.F_ahead.kp T.b_ahead .nil pass0 (pa_cons (pv 0) (pa_cons (pv 2) pa_nil))))) pss_nil)
      (pss_cons (ps_if (pt_cmpR op_eq (pv 1) pe_int (nomark _)) (pss_one (ps_ret (pe_call (ok_until T) (hr.mono (by decide)) rfl T.g_until T.F_until.kp T.b_until .nil pass0 (pa_cons (pv 0) (pa_cons (pv 2) pa_nil))))) pss_nil)
      (pss_cons (ps_if (pt_cmpR op_eq (pv 1) pe_int (nomark _)) (pss_one (ps_ret (pe_call (ok_slip T) (hr.mono (by decide)) rfl T.g_slip T.F_slip.kp T.b_slip .nil pass0 (pa_cons (pv 0) (pa_cons (pv 2) pa_nil))))) pss_nil)
      (pss_cons (ps_if (pt_cmpR op_eq (pv 1) pe_int (nomark _)) (pss_one (ps_ret (pe_call (ok_where T) (hr.mono (by decide)) rfl T.g_where T.F_where.kp T.b_where .nil pass0 (pa_cons (pv 0) (pa_cons (pv 2) pa_nil))))) pss_nil)
      (pss_one (ps_ret (pe_call (ok_chain_ids T) (hr.mono (by decide)) rfl T.g_chain_ids T.F_chain_ids.kp T.b_chain_ids .nil pass0 (pa_cons (pv 0) (pa_cons (pv 2) pa_nil)))))))))))))), ?_⟩
    refine ⟨_, rfl, rfl, _, rfl, iteI (fun e => ?_) (fun e0 => ?_)⟩
    · subst e; exact ⟨_, rfl, _, rfl, c, m, cal, a, rfl, CA, k⟩
    refine ⟨_, rfl, rfl, _, rfl, iteI (fun e => ?_) (fun e1 => ?_)⟩
    · subst e; exact ⟨_, rfl, _, rfl, c, m, cal, a, rfl, CA, k⟩
    refine ⟨_, rfl, rfl, _, rfl, iteI (fun e => ?_) (fun e2 => ?_)⟩
    · subst e; exact ⟨_, rfl, _, rfl, c, m, cal, a, rfl, CA, k⟩
    refine ⟨_, rfl, rfl, _, rfl, iteI (fun e => ?_) (fun e3 => ?_)⟩
    · subst e; exact ⟨_, rfl, _, rfl, c, m, cal, a, rfl, CA, k⟩
    refine ⟨_, rfl, rfl, _, rfl, iteI (fun e => ?_) (fun e4 => ?_)⟩
    · subst e; exact ⟨_, rfl, _, rfl, c, m, cal, a, rfl, CA, k⟩
    refine ⟨_, rfl, rfl, _, rfl, iteI (fun e => ?_) (fun e5 => ?_)⟩
    · subst e; exact ⟨_, rfl, _, rfl, c, m, cal, a, rfl, CA, k⟩
    refine ⟨_, rfl, rfl, _, rfl, iteI (fun e => ?_) (fun e6 => ?_)⟩
    · subst e; exact ⟨_, rfl, _, rfl, c, m, cal, a, rfl, CA, k⟩
    refine ⟨_, rfl, rfl, _, rfl, iteI (fun e => ?_) (fun e7 => ?_)⟩
    · subst e; exact ⟨_, rfl, _, rfl, c, m, cal, a, rfl, CA, k⟩
    refine ⟨_, rfl, rfl, _, rfl, iteI (fun e => ?_) (fun e8 => ?_)⟩
    · subst e; exact ⟨_, rfl, _, rfl, c, m, cal, a, rfl, CA, k⟩
    refine ⟨_, rfl, rfl, _, rfl, iteI (fun e => ?_) (fun e9 => ?_)⟩
    · subst e; exact ⟨_, rfl, _, rfl, c, m, cal, a, rfl, CA, k⟩
    · have e : p = 19 := by omega
      subst e; exact ⟨_, rfl, _, rfl, c, m, cal, a, rfl, CA, k⟩
def sp_answer_no_number (D : Ads) : Sp := fun vs H Q _ => ∃ c m cal, ∃ p : Int, vs = [.ref c, .int p] ∧ CalAt D H c m cal ∧ (p = 13 ∨ p = 14 ∨ p = 15 ∨ p = 20 ∨ p = 21 ∨ p = 22 ∨ p = 24) ∧
  Done D c m H (Vbdead.does cal [[p]]).1 (Vbdead.does cal [[p]]).2 Q
theorem ok_answer_no_number (T : Txt K mg D) : FnOk P w K mg base CX0 8 D.f_answer_no_number D.d_answer_no_number ["calendar", "place"] (sp_answer_no_number D) := by
  refine T.F_answer_no_number.ok sc_answer_no_number (fun vs H Q E h => ?_) (fun cdv A outer s H vs Q E hr h => ?_)
  · obtain ⟨c, m, cal, p, rfl, _⟩ := h
    rfl
  · obtain ⟨c, m, cal, p, rfl, CA, hp, k⟩ := h
    refine ⟨_, pss_cons (ps_if (pt_cmpR op_eq (pv 1) pe_int (nomark _)) (pss_one (ps_ret (pe_call (ok_ready T) (hr.mono (by decide)) rfl T.g_ready T.F_ready.kp T.b_ready .nil pass0 (pa_cons (pv 0) pa_nil)))) pss_nil)
      (pss_cons (ps_if (pt_cmpR op_eq (pv 1) pe_int (nomark _)) (pss_one (ps_ret (pe_call (ok_first T) (hr.mono (by decide)) rfl T.g_first T.F_first.kp T.b_first .nil pass0 (pa_cons (pv 0) pa_nil)))) pss_nil)
      (pss_cons (ps_if (pt_cmpR op_eq (pv 1) pe_int (nomark _)) (pss_one (ps_ret (pe_call (ok_turn T) (hr.mono (by decide)) rfl T.g_turn T.F_turn.kp T.b_turn .nil pass0 (pa_cons (pv 0) pa_nil)))) pss_nil)
      (pss_cons (ps_if (pt_cmpR op_eq (pv 1) pe_int (nomark _)) (pss_one (ps_ret (pe_call (ok_sizes T) (hr.mono (by decide)) rfl T.g_sizes T.F_sizes.kp T.b_sizes .nil pass0 (pa_cons (pv 0) pa_nil)))) pss_nil)
      (pss_cons (ps_if (pt_cmpR op_eq (pv 1) pe_int (nomark _)) (pss_one (ps_ret (pe_call (ok_next_due T) (hr.mono (by decide)) rfl T.g_next_due T.F_next_due.kp T.b_next_due .nil pass0 (pa_cons (pv 0) pa_nil)))) pss_nil)
      (pss_cons (ps_if (pt_cmpR op_eq (pv 1) pe_int (nomark _)) (pss_one (ps_ret (pe_call (ok_told T) (hr.mono (by decide)) rfl T.g_told T.F_told.kp T.b_told .nil pass0 (pa_cons (pv 0) pa_nil)))) pss_nil)
      (pss_one (ps_ret (pe_call (ok_clear T) (hr.mono (by decide)) rfl T.g_clear T.F_clear.kp T.b_clear .nil pass0 (pa_cons (pv 0) pa_nil))))))))), ?_⟩
    refine ⟨_, rfl, rfl, _, rfl, iteI (fun e => ?_) (fun e0 => ?_)⟩
    · subst e; exact ⟨_, rfl, c, m, cal, rfl, CA, k⟩
    refine ⟨_, rfl, rfl, _, rfl, iteI (fun e => ?_) (fun e1 => ?_)⟩
    · subst e; exact ⟨_, rfl, c, m, cal, rfl, CA, k⟩
    refine ⟨_, rfl, rfl, _, rfl, iteI (fun e => ?_) (fun e2 => ?_)⟩
    · subst e; exact ⟨_, rfl, c, m, cal, rfl, CA, k⟩
    refine ⟨_, rfl, rfl, _, rfl, iteI (fun e => ?_) (fun e3 => ?_)⟩
    · subst e; exact ⟨_, rfl, c, m, cal, rfl, CA, k⟩
    refine ⟨_, rfl, rfl, _, rfl, iteI (fun e => ?_) (fun e4 => ?_)⟩
    · subst e; exact ⟨_, rfl, c, m, cal, rfl, CA, k⟩
    refine ⟨_, rfl, rfl, _, rfl, iteI (fun e => ?_) (fun e5 => ?_)⟩
    · subst e; exact ⟨_, rfl, c, m, cal, rfl, CA, k⟩
    · have e : p = 24 := by omega
      subst e; exact ⟨_, rfl, c, m, cal, rfl, CA, k⟩
theorem Done.laid {c : Addr} {m : M} {H : Hp} {cal : Vbdead.Cal} {ans : List Int} {Q : VK} (d : Done D c m H cal ans Q) {p : Addr} {o : HO} (h : H p = none) : Done D c m (upd H p o) cal ans Q := fun H' m' r A1 K1 hr hne => by
  have up : ∀ b u, H b = some u → upd H p o b = some u := fun b u e => by rw [upd_ne (ne_of_none e h)]; exact e
  exact d H' m' r A1 (fun b u e n => K1 b u (up b u e) n) hr (fun b u e n => hne b u (up b u e) n)
theorem counts_of {p : Int} {n : Nat} (h0 : 0 ≤ p ∧ p ≤ 24) (h1 : ¬ (p = 1 ∨ p = 23)) (hc : counts.lookup p = some (n : Int)) : (n = 2 ∧ (p = 0 ∨ p = 2 ∨ p = 3 ∨ p = 4 ∨ p = 8)) ∨ (n = 1 ∧ (p = 5 ∨ p = 6 ∨ p = 7 ∨ p = 9 ∨ p = 10 ∨ p = 11 ∨ p = 12 ∨ p = 16 ∨ p = 17 ∨ p = 18 ∨ p = 19)) ∨
    (n = 0 ∧ (p = 13 ∨ p = 14 ∨ p = 15 ∨ p = 20 ∨ p = 21 ∨ p = 22 ∨ p = 24)) := by
  have keyB : ∀ k : Nat, k < 25 → k ≠ 1 → k ≠ 23 → ((counts.lookup (k : Int) == some 2 && [0, 2, 3, 4, 8].contains k) || (counts.lookup (k : Int) == some 1 && [5, 6, 7, 9, 10, 11, 12, 16, 17, 18, 19].contains k) || (counts.lookup (k : Int) == some 0 && [13, 14, 15, 20, 21, 22, 24].contains k)) = true := by decide +kernel
  have key : ∀ k : Nat, k < 25 → k ≠ 1 → k ≠ 23 → ((counts.lookup (k : Int) = some 2 ∧ k ∈ [0, 2, 3, 4, 8]) ∨ (counts.lookup (k : Int) = some 1 ∧ k ∈ [5, 6, 7, 9, 10, 11, 12, 16, 17, 18, 19]) ∨ (counts.lookup (k : Int) = some 0 ∧ k ∈ [13, 14, 15, 20, 21, 22, 24])) := fun k a b c => by
    have := keyB k a b c
    simp only [Bool.or_eq_true, Bool.and_eq_true, beq_iff_eq, List.contains_iff_mem] at this
    rcases this with (h | h) | h
    · exact .inl h
    · exact .inr (.inl h)
    · exact .inr (.inr h)
  obtain ⟨k, rfl⟩ : ∃ k : Nat, p = (k : Int) := ⟨p.toNat, by omega⟩
  rcases key k (by omega) (by omega) (by omega) with ⟨a, b⟩ | ⟨a, b⟩ | ⟨a, b⟩
  · rw [hc] at a
    have a := Option.some.inj a
    simp only [List.mem_cons, List.not_mem_nil, or_false] at b
    exact .inl ⟨by omega, by omega⟩
  · rw [hc] at a
    have a := Option.some.inj a
    simp only [List.mem_cons, List.not_mem_nil, or_false] at b
    exact .inr (.inl ⟨by omega, by omega⟩)
  · rw [hc] at a
    have a := Option.some.inj a
    simp only [List.mem_cons, List.not_mem_nil, or_false] at b
    exact .inr (.inr ⟨by omega, by omega⟩)
theorem ok_answer_call (T : Txt K mg D) : FnOk P w K mg base CX0 10 D.f_answer_call D.d_answer_call ["calendar", "calls", "start", "end"] (sp_answer_call D K) := by
  refine T.F_answer_call.ok sc_answer_call (fun vs H Q E h => ?_) (fun cdv A outer s H vs Q E hr h => ?_)
  · obtain ⟨c, m, cal, q, l, i, p, r, x, t, rfl, _⟩ := h
    rfl
  · obtain ⟨c, m, cal, q, l, i, p, r, x, t, rfl, CA, hq, hl, hd, hcall, k⟩ := h
    have hll := len_of_drop hd
    have hsh := shape_of_call hcall
    refine ⟨_, pss_cons (ps_set (i := 4) sc_answer_call.nd rfl (Or.inl rfl) (pe_ix ix_list (pv 1) (pv 2) (fun _ _ => rfl)))
      (pss_cons (ps_if (pt_val (pe_call (ok_has_row T) (hr.mono (by decide)) rfl T.g_has_row T.F_has_row.kp T.b_has_row .nil pass0 (pa_cons (pv 4) pa_nil))) (pss_one (ps_ret (pe_call (ok_answer_row T) (hr.mono (by decide)) rfl T.g_answer_row T.F_answer_row.kp T.b_answer_row .nil pass0 (pa_cons (pv 0) (pa_cons (pv 4) (pa_cons (pe_slice sl_list (pv 1) (po_some (pe_op op_add (pv 2) pe_int)) (po_some (pv 3))) pa_nil)))))) pss_nil)
      (pss_cons (ps_set (i := 5) sc_answer_call.nd rfl (Or.inl rfl) (pe_tab rfl T.t_NUMBER_COUNTS (pv 4) (fun _ _ => rfl)))
      (pss_cons (ps_if (pt_cmpR op_eq (pv 5) pe_int (nomark _)) (pss_one (ps_ret (pe_call (ok_answer_two_numbers T) (hr.mono (by decide)) rfl T.g_answer_two_numbers T.F_answer_two_numbers.kp T.b_answer_two_numbers .nil pass0 (pa_cons (pv 0) (pa_cons (pv 4) (pa_cons (pe_ix ix_list (pv 1) (pe_op op_add (pv 2) pe_int) (fun _ _ => rfl)) (pa_cons (pe_ix ix_list (pv 1) (pe_op op_add (pv 2) pe_int) (fun _ _ => rfl)) pa_nil))))))) pss_nil)
      (pss_cons (ps_if (pt_cmpR op_eq (pv 5) pe_int (nomark _)) (pss_one (ps_ret (pe_call (ok_answer_one_number T) (hr.mono (by decide)) rfl T.g_answer_one_number T.F_answer_one_number.kp T.b_answer_one_number .nil pass0 (pa_cons (pv 0) (pa_cons (pv 4) (pa_cons (pe_ix ix_list (pv 1) (pe_op op_add (pv 2) pe_int) (fun _ _ => rfl)) pa_nil)))))) pss_nil)
      (pss_one (ps_ret (pe_call (ok_answer_no_number T) (hr.mono (by decide)) rfl T.g_answer_no_number T.F_answer_no_number.kp T.b_answer_no_number .nil pass0 (pa_cons (pv 0) (pa_cons (pv 4) pa_nil))))))))), ?_⟩
    refine ⟨_, rfl, _, rfl, q, _, _, .int p, rfl, rfl, hq.sq, at_drop (j := 0) hd rfl rfl, ?_⟩
    refine ⟨_, rfl, p, rfl, _, rfl, iteD (fun h1 => ?_) (fun h1 => ?_)⟩
    · obtain ⟨m0, r', rfl, hm, rfl, rfl⟩ := call_row (shape_row h1) hcall
      refine ⟨_, rfl, _, rfl, _, rfl, _, rfl, _, _, rfl, rfl, _, rfl, _, rfl, _, rfl, q, _, rfl, hq.sq, fun z hz => ?_⟩
      rw [List.length_cons] at hll
      have er : l.drop (i + 2) = r' := by rw [← List.drop_drop, hd]; rfl
      have ecut : cutV (l.map V.int) (some ((i : Int) + 2)) (some ((l.length - (r'.drop m0).length : Nat) : Int)) = (r'.take m0).map V.int := by
        rw [List.length_drop, show l.length - (r'.length - m0) = i + 2 + m0 by omega, show (i : Int) + 2 = ((i + 2 : Nat) : Int) by omega, cut_mid, ← List.map_drop, ← List.map_take, er]
      rw [ecut]
      have L := CA.laid (o := .lst ((r'.take m0).map V.int)) hz
      exact ⟨c, m, cal, z, p, r'.take m0, rfl, L.1, upd_same, CA.rep.fresh hz, (by rw [List.length_take]; omega), h1, k.laid hz⟩
    · obtain ⟨n, hs, hc⟩ := counts_at hsh h1
      obtain ⟨hn, rfl, rfl⟩ := call_plain hs hcall
      refine ⟨_, rfl, p, (n : Int), rfl, hc, ?_⟩
      rcases counts_of hsh h1 hc with ⟨rfl, hp⟩ | ⟨rfl, hp⟩ | ⟨rfl, hp⟩
      · match r, hn with
        | a :: b :: r, _ =>
          refine ⟨_, rfl, rfl, _, rfl, iteI (fun _ => ?_) (fun z => absurd rfl z)⟩
          exact ⟨_, rfl, _, rfl, _, rfl, _, rfl, _, _, rfl, rfl, q, _, _, .int a, rfl, rfl, hq.sq, at_drop (j := 1) hd rfl rfl, _, rfl, _, rfl, _, _, rfl, rfl, q, _, _, .int b, rfl, rfl, hq.sq, at_drop (j := 2) hd rfl rfl, c, m, cal, p, a, b, rfl, CA, hp, k⟩
      · refine ⟨_, rfl, rfl, _, rfl, iteI (fun z => absurd z (by decide)) (fun _ => ?_)⟩
        match r, hn with
        | a :: r, _ =>
          refine ⟨_, rfl, rfl, _, rfl, iteI (fun _ => ?_) (fun z => absurd rfl z)⟩
          exact ⟨_, rfl, _, rfl, _, rfl, _, rfl, _, _, rfl, rfl, q, _, _, .int a, rfl, rfl, hq.sq, at_drop (j := 1) hd rfl rfl, c, m, cal, p, a, rfl, CA, hp, k⟩
      · refine ⟨_, rfl, rfl, _, rfl, iteI (fun z => absurd z (by decide)) (fun _ => ?_)⟩
        refine ⟨_, rfl, rfl, _, rfl, iteI (fun z => absurd z (by decide)) (fun _ => ?_)⟩
        exact ⟨_, rfl, _, rfl, c, m, cal, p, rfl, CA, hp, k⟩
end
end WP
end
section
set_option Elab.async false
set_option linter.all false
set_option maxRecDepth 100000
namespace WP
open PySem PySem.Spec PyProof.Rows L2 WM
section
variable {P : Program} {w : World} {K : PySem.W.Frag} {mg : Str → Option Value} {base : Heap} {D : Ads}
def sp_top (K : PySem.W.Frag) : Sp := fun vs H Q _ => ∃ q, ∃ (l : List Int) (cs : List (List (List Int))), vs = [.ref q] ∧ SqL K H q (l.map V.int) ∧ Parses l cs ∧ (due Vbdead.start cs).length ≤ 10000000 ∧
  l.length ≤ 16000 ∧ ∀ H' p, H' p = some (.lst ((due Vbdead.start cs).map V.int)) → Q (.ref p) H'
def sp_answers (_ : Ads) (K : PySem.W.Frag) : Sp := sp_top K
theorem ok_answers (T : Txt K mg D) : FnOk P w K mg base CX0 11 D.f_answers D.d_answers ["calls"] (sp_answers D K) := by
  refine T.F_answers.ok sc_answers (fun vs H Q E h => ?_) (fun cdv A outer s H vs Q E hr h => ?_)
  · obtain ⟨q, l, cs, rfl, _⟩ := h
    rfl
  · obtain ⟨q, l, cs, rfl, hq0, hp, hlen, hl, k⟩ := h
    refine ⟨_, pss_cons (ps_set (i := 1) sc_answers.nd rfl (Or.inl rfl) (pe_make0 T.m_Calendar (ok_Calendar_init T) (hr.mono (by decide)) rfl T.g_Calendar T.b_Calendar_init .nil pass0))
      (pss_cons (ps_set (i := 2) sc_answers.nd rfl (Or.inl rfl) (pe_lst pa_nil))
      (pss_cons (ps_set (i := 3) sc_answers.nd rfl (Or.inl rfl) pe_int)
      (pss_cons (ps_while PassesOwn.never (pt_cmpR op_lt (pv 3) (pe_callB call_len_seq rfl T.n_len PySem.boot_len (pa_cons (pv 0) pa_nil)) (nomark _)) (pss_cons (ps_set (i := 4) sc_answers.nd rfl (Or.inl rfl) (pe_call (ok_call_end T) (hr.mono (by decide)) rfl T.g_call_end T.F_call_end.kp T.b_call_end .nil pass0 (pa_cons (pv 0) (pa_cons (pv 3) pa_nil))))
      (pss_cons (ps_set (i := 5) sc_answers.nd rfl (Or.inl rfl) (pe_call (ok_answer_call T) (hr.mono (by decide)) rfl T.g_answer_call T.F_answer_call.kp T.b_answer_call .nil pass0 (pa_cons (pv 1) (pa_cons (pv 0) (pa_cons (pv 3) (pa_cons (pv 4) pa_nil))))))
      (pss_cons (ps_expr (pe_bm PySem.F.plainAttrs_list PySem.F.slot_list_append PySem.F.type_list_append mt_append (pv 2) (pa_cons (pe_callB call_len_seq rfl T.n_len PySem.boot_len (pa_cons (pv 5) pa_nil)) pa_nil)))
      (pss_cons (ps_expr (pe_bm PySem.F.plainAttrs_list PySem.F.slot_list_extend PySem.F.type_list_extend mt_extend (pv 2) (pa_cons (pv 5) pa_nil)))
      (pss_one (ps_set (i := 3) sc_answers.nd rfl (Or.inl rfl) (pv 4))))))))
      (pss_one (ps_ret (pv 2)))))), ?_⟩
    refine fun c dx nx nd ne => ⟨c, dx, rfl, upd_same, fun H1 m CA K1 => ⟨rfl, ?_⟩⟩
    have s1 : ∀ b o, H b = some o → H1 b = some o ∧ ¬ m.owns c b := fun b o e => K1 b o (by rw [upd_ne (ne_of_none e nx), upd_ne (ne_of_none e nd)]; exact e) (ne_of_none e nx)
    have hq : Held K H1 c m q (l.map V.int) := by
      rcases hq0 with (h | ⟨o, h⟩) | h
      · exact .inl ⟨.inl (s1 _ _ h).1, (s1 _ _ h).2⟩
      · exact .inl ⟨.inr ⟨o, (s1 _ _ h).1⟩, (s1 _ _ h).2⟩
      · exact .inr fun H' => .inr h
    refine ⟨Nat.zero_le _, fun p np => ?_⟩
    have hsl : (10000000 : Nat) < sizeLine := by decide
    refine ⟨fun n σ H' => ∃ (i : Nat) (cal : Vbdead.Cal) (m' : M) (cs' : List (List (List Int))) (dn : List Int) (v4 v5 : Option V), n = l.length - i ∧ σ = [some (.ref q), some (.ref c), some (.ref p), some (.int (i : Int)), v4, v5] ∧ CalAt D H' c m' cal ∧
      Held K H' c m' q (l.map V.int) ∧ H' p = some (.lst (dn.map V.int)) ∧ ¬ m'.owns c p ∧ Parses (l.drop i) cs' ∧ i ≤ l.length ∧ due Vbdead.start cs = dn ++ due cal cs',
      ⟨_, 0, Vbdead.start, m, cs, [], none, none, rfl, rfl, CA.other (CA.rep.fresh np), hq.other (hq.ne np), upd_same, CA.rep.fresh np, hp, Nat.zero_le _, rfl⟩, ?_⟩
    rintro n σ H' ⟨i, cal, m', cs', dn, v4, v5, rfl, rfl, CA', hq', hp', no', hps, hi, ed⟩
    refine ⟨_, rfl, _, rfl, q, _, rfl, .inl hq'.sq, _, _, rfl, rfl, _, rfl, iteD (fun hlt => ?_) (fun hge => ?_)⟩
    · have hlt : i < l.length := by rw [List.length_map] at hlt; omega
      obtain ⟨p0, r, hdr⟩ : ∃ p0 r, l.drop i = p0 :: r := ⟨_, _, List.drop_eq_getElem_cons hlt⟩
      rw [hdr] at hps
      obtain ⟨x, t, cs'', hcall, rfl, hps'⟩ := hps.cons
      obtain ⟨j1, j2, j3⟩ := next_at hdr hcall
      refine ⟨fun σ' H'' => ∃ n', n' < l.length - i ∧ ∃ (i : Nat) (cal : Vbdead.Cal) (m' : M) (cs' : List (List (List Int))) (dn : List Int) (v4 v5 : Option V), n' = l.length - i ∧ σ' = [some (.ref q), some (.ref c), some (.ref p), some (.int (i : Int)), v4, v5] ∧ CalAt D H'' c m' cal ∧
        Held K H'' c m' q (l.map V.int) ∧ H'' p = some (.lst (dn.map V.int)) ∧ ¬ m'.owns c p ∧ Parses (l.drop i) cs' ∧ i ≤ l.length ∧ due Vbdead.start cs = dn ++ due cal cs', fun _ _ h => h, ?_⟩
      refine ⟨_, rfl, _, rfl, q, l, i, p0, r, x, t, rfl, hq'.sq, hdr, hcall, ?_⟩
      refine ⟨_, rfl, _, rfl, _, rfl, _, rfl, c, m', cal, q, l, i, p0, r, x, t, rfl, CA', hq', hl, hdr, hcall, fun H2 m2 a A2 K2 ha hne => ?_⟩
      have hp2 := K2 p _ hp' no'
      have npa : a ≠ p := fun z => hne p _ hp' no' z.symm
      rw [due_cons] at ed
      have hlen2 : dn.length + (Vbdead.does cal x).2.length + 1 ≤ 10000000 := by
        rw [ed] at hlen
        simp only [List.length_append, List.length_cons] at hlen
        omega
      refine ⟨_, rfl, .inl ⟨rfl, _, SqL.of hp2.1⟩, _, rfl, a, _, rfl, .inl (SqL.of ha), p, _, _, rfl, rfl, hp2.1, (by rw [List.length_map]; omega), ?_⟩
      refine ⟨_, rfl, .inl ⟨rfl, _, SqL.of upd_same⟩, _, rfl, p, a, _, _, rfl, rfl, upd_same, (by rw [upd_ne npa]; exact ha), ?_, ?_⟩
      · simp only [List.length_append, List.length_map, List.length_cons, List.length_nil]; omega
      have hqp := hq'.kept K2
      have hne2 : q ≠ p ∨ ∀ H', SqL K H' q (l.map V.int) := by
        rcases hq.ne np with z | z
        · exact .inl z
        · exact .inr z
      refine ⟨_, rfl, l.length - (l.length - t.length), by omega, l.length - t.length, (Vbdead.does cal x).1, m2, cs'', dn ++ ((Vbdead.does cal x).2.length : Int) :: (Vbdead.does cal x).2, _, _, rfl, rfl, (A2.other hp2.2).other hp2.2, (hqp.other hne2).other hne2, ?_, hp2.2, ?_, j2, ?_⟩
      · rw [upd_same]
        simp only [List.map_append, List.map_cons, List.append_assoc, List.length_map]; rfl
      · rw [j3]; exact hps'
      · rw [ed]; simp
    · have hge : i = l.length := by rw [List.length_map] at hge; omega
      subst hge
      rw [List.drop_length] at hps
      have := hps.nil
      subst this
      rw [due_nil, List.append_nil] at ed
      exact ⟨_, rfl, k H' p (by rw [ed]; exact hp')⟩
end
end WP
end
set_option Elab.async false
set_option linter.all false
set_option maxRecDepth 100000
namespace WP
open PySem PySem.Spec PyProof.Rows L2
abbrev kOf {K : PySem.W.Frag} {h : Heap} (_ : K.In h) : PySem.W.Frag := K
/-- a def of the text's top -/
structure DefAt (K : PySem.W.Frag) (mg : Str → Option Value) (x : Str) (st : Stmt) (ps : List Str) (f : Addr) (fd : FuncData) : Prop where
  F : Fun K x x st f fd
  b : Binds K fd ps []
  g : mg x = some (.ref f)
  b0 : ∀ (s : Shared) (us : List Value), us.length = ps.length → BindsTo s fd ⟨us, []⟩ (ps.zip us)
theorem def_mk {K : PySem.W.Frag} {h : Heap} {mg : Str → Option Value} {x : Str} {st : Stmt} {ps : List Str} (X : K.In h) (G : h.Ns mainGlobals mg) {f : Addr} {oc : Value} {od an : Option Addr} {sl : Array (Option Value)} {kV dc pm cd ct : Value}
    (a : PySem.W.nsIn K mainGlobals x = some (some (.ref f))) (l : K.lookup f = some ⟨oc, od, .func (PySem.W.fnOf x x (defArgs st) (defBody st) (defScope st) .none kV dc pm an cd ct), sl⟩) (c : PySem.W.codeIn K cd x = true) (k : PySem.W.keepIn K (.ref f) = true)
    (hb : ∀ (kV doc pm : Value) (an : Option Addr) (cdv ct : Value) (us : List Value), us.length = ps.length → bindArgs (PySem.W.fnOf x x (defArgs st) (defBody st) (defScope st) .none kV doc pm an cdv ct) ⟨us, []⟩ = pure (ps.zip us)) :
    ∃ f fd, DefAt K mg x st ps f fd := ⟨f, _, fun_mk l c k, (fun_mk l c k).binds hb, PySem.W.mg_of X G a, fun s us hu => .of_eq (hb _ _ _ _ _ _ us hu)⟩
theorem const_mk {K : PySem.W.Frag} {h : Heap} {mg : Str → Option Value} {x : Str} {v : Int} {t : Tok} (X : K.In h) (G : h.Ns mainGlobals mg) (e : PySem.W.nsIn K mainGlobals x = some (some (.int v t))) : ∃ t, mg x = some (.int v t) := ⟨t, PySem.W.mg_of X G e⟩
theorem tab_mk {K : PySem.W.Frag} {h : Heap} {mg : Str → Option Value} {x : Str} {a : Addr} {es : Array DictEntry} {ep : Nat} {t : List (Int × Int)} (X : K.In h) (G : h.Ns mainGlobals mg) (e : PySem.W.nsIn K mainGlobals x = some (some (.ref a)))
    (l : K.lookup a = some ⟨.type "dict", none, .dict es ep, #[]⟩) (hi : tabIs es.toList t = true) (nd : (t.map (·.1)).Nodup) : ∃ a, Tab K mg x a t := ⟨a, PySem.W.mg_of X G e, ⟨es, ep, l, hi⟩, nd⟩
theorem tupl_mk {K : PySem.W.Frag} {h : Heap} {mg : Str → Option Value} {x : Str} {a : Addr} {its : Array Value} {n : Nat} {sl : Array (Option Value)} {t : List Int} {od : Option Addr} (X : K.In h) (G : h.Ns mainGlobals mg) (e : PySem.W.nsIn K mainGlobals x = some (some (.ref a)))
    (l : K.lookup a = some ⟨.type "tuple", od, .seq its n, sl⟩) (hi : tuplIs its.toList t = true) (hs : its.size ≤ 100) : ∃ a, Tupl K mg x a t := ⟨a, PySem.W.mg_of X G e, fun H => .inr ⟨_, its, n, l, rfl, rfl, Nat.le_trans hs (by decide), tupl_vals hi⟩⟩
structure At_Thing (K : PySem.W.Frag) (mg : Str → Option Value) (C f : Addr) (fd : FuncData) : Prop where
  l : Cls K C
  m : Mk K C f
  g : mg "Thing" = some (.ref C)
  F : Fun K "__init__" "Thing.__init__" s_Thing_init f fd
  b : Binds K fd ["self", "number", "priority"] []
  n : NoAttr K C "number" ∧ NoAttr K C "priority" ∧ NoAttr K C "holds" ∧ NoAttr K C "chain" ∧ NoAttr K C "due" ∧ NoAttr K C "rest"
theorem mk_Thing {K : PySem.W.Frag} {h : Heap} {mg : Str → Option Value} (X : K.In h) (G : h.Ns mainGlobals mg) {C f : Addr} {oc : Value} {od an : Option Addr} {sl : Array (Option Value)} {kV dc pm cd ct : Value}
    (aC : PySem.W.nsIn K mainGlobals "Thing" = some (some (.ref C))) (a1 : PySem.W.findIn K (.ref C) "__init__" = some (some (.ref f))) (i1 : PySem.W.isFn K (.ref f) = true)
    (l1 : K.lookup f = some ⟨oc, od, .func (PySem.W.fnOf "__init__" "Thing.__init__" (defArgs s_Thing_init) (defBody s_Thing_init) (defScope s_Thing_init) .none kV dc pm an cd ct), sl⟩) (c1 : PySem.W.codeIn K cd "Thing.__init__" = true) (k1 : PySem.W.keepIn K (.ref f) = true)
    (pg : PySem.W.plainGet K C Str.empty = true) (hd : PySem.W.hasDictIn K C = true) (po : PySem.W.plainOver K C = true) (sa : PySem.W.findIn K (.ref C) "__setattr__" = some (some (.builtin "object.__setattr__"))) (mk : PySem.W.makesIn K C = true) (kc : PySem.W.keepIn K (.ref C) = true)
    (n_number : PySem.W.findIn K (.ref C) "number" = some none) (n_priority : PySem.W.findIn K (.ref C) "priority" = some none) (n_holds : PySem.W.findIn K (.ref C) "holds" = some none) (n_chain : PySem.W.findIn K (.ref C) "chain" = some none) (n_due : PySem.W.findIn K (.ref C) "due" = some none) (n_rest : PySem.W.findIn K (.ref C) "rest" = some none) : ∃ C f fd, At_Thing K mg C f fd :=
  ⟨C, f, _, ⟨pg, hd, po, sa⟩, ⟨mk, a1, i1, kc⟩, PySem.W.mg_of X G aC, fun_mk l1 c1 k1, (fun_mk l1 c1 k1).binds (fun _ _ _ _ _ _ us hl => match us, hl with | [_, _, _], _ => rfl), n_number, n_priority, n_holds, n_chain, n_due, n_rest⟩
structure At_Calendar (K : PySem.W.Frag) (mg : Str → Option Value) (C f : Addr) (fd : FuncData) : Prop where
  l : Cls K C
  m : Mk K C f
  g : mg "Calendar" = some (.ref C)
  F : Fun K "__init__" "Calendar.__init__" s_Calendar_init f fd
  b : Binds K fd ["self"] []
  n : NoAttr K C "clock" ∧ NoAttr K C "things" ∧ NoAttr K C "chains"
theorem mk_Calendar {K : PySem.W.Frag} {h : Heap} {mg : Str → Option Value} (X : K.In h) (G : h.Ns mainGlobals mg) {C f : Addr} {oc : Value} {od an : Option Addr} {sl : Array (Option Value)} {kV dc pm cd ct : Value}
    (aC : PySem.W.nsIn K mainGlobals "Calendar" = some (some (.ref C))) (a1 : PySem.W.findIn K (.ref C) "__init__" = some (some (.ref f))) (i1 : PySem.W.isFn K (.ref f) = true)
    (l1 : K.lookup f = some ⟨oc, od, .func (PySem.W.fnOf "__init__" "Calendar.__init__" (defArgs s_Calendar_init) (defBody s_Calendar_init) (defScope s_Calendar_init) .none kV dc pm an cd ct), sl⟩) (c1 : PySem.W.codeIn K cd "Calendar.__init__" = true) (k1 : PySem.W.keepIn K (.ref f) = true)
    (pg : PySem.W.plainGet K C Str.empty = true) (hd : PySem.W.hasDictIn K C = true) (po : PySem.W.plainOver K C = true) (sa : PySem.W.findIn K (.ref C) "__setattr__" = some (some (.builtin "object.__setattr__"))) (mk : PySem.W.makesIn K C = true) (kc : PySem.W.keepIn K (.ref C) = true)
    (n_clock : PySem.W.findIn K (.ref C) "clock" = some none) (n_things : PySem.W.findIn K (.ref C) "things" = some none) (n_chains : PySem.W.findIn K (.ref C) "chains" = some none) : ∃ C f fd, At_Calendar K mg C f fd :=
  ⟨C, f, _, ⟨pg, hd, po, sa⟩, ⟨mk, a1, i1, kc⟩, PySem.W.mg_of X G aC, fun_mk l1 c1 k1, (fun_mk l1 c1 k1).binds (fun _ _ _ _ _ _ us hl => match us, hl with | [_], _ => rfl), n_clock, n_things, n_chains⟩
end WP
/-! The head lays beside each object that it writes out an equation whose proof grows with the square of what the object names; with all of them the compiled text passes 64 MiB. A name that is taken already is passed over: then the head goes the plain way. -/
def PySem.W.Fast.tw13387692106374371964 : Nat := 0
def PySem.W.Fast.tw1779346681242054077 : Nat := 0
def PySem.W.Fast.tw3313545981534038353 : Nat := 0
def PySem.W.Fast.tw2040408964962356496 : Nat := 0
def PySem.W.Fast.tw12851650757155630238 : Nat := 0
def PySem.W.Fast.tw13459777422428043971 : Nat := 0
def PySem.W.Fast.tw7745640279399274975 : Nat := 0
def PySem.W.Fast.tw9653317271988055326 : Nat := 0
def PySem.W.Fast.tw13707411976037609533 : Nat := 0
def PySem.W.Fast.tw4541766663603380123 : Nat := 0
def PySem.W.Fast.tw7272227661558974298 : Nat := 0
def PySem.W.Fast.tw7525026481931794658 : Nat := 0
def PySem.W.Fast.tw13443114422250296534 : Nat := 0
def PySem.W.Fast.tw7957658568108225087 : Nat := 0
def PySem.W.Fast.tw13682005058475205462 : Nat := 0
def PySem.W.Fast.tw388533169818780736 : Nat := 0
def PySem.W.Fast.tw2483527148102434670 : Nat := 0
def PySem.W.Fast.tw9679037452763919423 : Nat := 0
def PySem.W.Fast.tw14629917360512018868 : Nat := 0
def PySem.W.Fast.tw4685622937024140002 : Nat := 0
def PySem.W.Fast.tw16059523825002604413 : Nat := 0
def PySem.W.Fast.tw2986992390159783362 : Nat := 0
def PySem.W.Fast.tw7754367790007501793 : Nat := 0
def PySem.W.Fast.tw4500733743884399199 : Nat := 0
def PySem.W.Fast.tw11832191491038192934 : Nat := 0
def PySem.W.Fast.tw5429311041916232470 : Nat := 0
def PySem.W.Fast.tw11833255136061640748 : Nat := 0
def PySem.W.Fast.tw303970374028522710 : Nat := 0
def PySem.W.Fast.tw17313390641864704330 : Nat := 0
def PySem.W.Fast.tw1316835165598712580 : Nat := 0
def PySem.W.Fast.tw1239078967026359343 : Nat := 0
def PySem.W.Fast.tw467849689917304196 : Nat := 0
def PySem.W.Fast.tw3229132984185818308 : Nat := 0
def PySem.W.Fast.tw5587292747590652529 : Nat := 0
def PySem.W.Fast.tw3208864692297167408 : Nat := 0
def PySem.W.Fast.tw7314938861573637133 : Nat := 0
def PySem.W.Fast.tw14257831085094108079 : Nat := 0
def PySem.W.Fast.tw5833890255251076594 : Nat := 0
def PySem.W.Fast.tw6315201310107583141 : Nat := 0
def PySem.W.Fast.tw15319240473034204049 : Nat := 0
def PySem.W.Fast.tw15392289833494993115 : Nat := 0
def PySem.W.Fast.tw18051154961801019898 : Nat := 0
def PySem.W.Fast.tw13961690255971919882 : Nat := 0
def PySem.W.Fast.tw7589940982439152895 : Nat := 0
def PySem.W.Fast.tw13329129953766281599 : Nat := 0
def PySem.W.Fast.tw14946597617297347849 : Nat := 0
def PySem.W.Fast.tw5544783837260629128 : Nat := 0
def PySem.W.Fast.tw2673080541736902851 : Nat := 0
def PySem.W.Fast.tw2437614264881952752 : Nat := 0
def PySem.W.Fast.tw11983671443783089712 : Nat := 0
def PySem.W.Fast.tw2719737877520502155 : Nat := 0
def PySem.W.Fast.tw11740783727693862409 : Nat := 0
def PySem.W.Fast.tw4423944744403131948 : Nat := 0
def PySem.W.Fast.tw11572123713570815030 : Nat := 0
def PySem.W.Fast.tw10153276951813327627 : Nat := 0
def PySem.W.Fast.tw8613656720406828037 : Nat := 0
def PySem.W.Fast.tw7061613670077096299 : Nat := 0
def PySem.W.Fast.tw1142836840630486726 : Nat := 0
def PySem.W.Fast.tw11560678327081279812 : Nat := 0
def PySem.W.Fast.tw16342779804020289946 : Nat := 0
def PySem.W.Fast.tw11120170195224115517 : Nat := 0
def PySem.W.Fast.tw8608968311016376204 : Nat := 0
def PySem.W.Fast.tw8242284275888179313 : Nat := 0
def PySem.W.Fast.tw11931229947351095335 : Nat := 0
def PySem.W.Fast.tw7181268355885074462 : Nat := 0
def PySem.W.Fast.tw4808506469542690937 : Nat := 0
def PySem.W.Fast.tw17596214393161702189 : Nat := 0
def PySem.W.Fast.tw5727588474892814678 : Nat := 0
def PySem.W.Fast.tw9518830486535785367 : Nat := 0
def PySem.W.Fast.tw12625498744735542856 : Nat := 0
def PySem.W.Fast.tw9602912470617150440 : Nat := 0
def PySem.W.Fast.tw8515595337599957500 : Nat := 0
def PySem.W.Fast.tw344474896659176414 : Nat := 0
def PySem.W.Fast.tw516043524110814505 : Nat := 0
def PySem.W.Fast.tw2589514656280194754 : Nat := 0
def PySem.W.Fast.tw17251277725884832799 : Nat := 0
def PySem.W.Fast.tw4102033366619108054 : Nat := 0
def PySem.W.Fast.tw4344852701604608193 : Nat := 0
def PySem.W.Fast.tw11956031128383289658 : Nat := 0
def PySem.W.Fast.tw9771006238865077991 : Nat := 0
def PySem.W.Fast.tw8019297959831342911 : Nat := 0
def PySem.W.Fast.tw3900565738484831794 : Nat := 0
def PySem.W.Fast.tw1586460696074350458 : Nat := 0
def PySem.W.Fast.tw2133673570270467528 : Nat := 0
def PySem.W.Fast.tw4246115136923987014 : Nat := 0
def PySem.W.Fast.tw8726707036424725564 : Nat := 0
def PySem.W.Fast.tw3045454399068105382 : Nat := 0
def PySem.W.Fast.tw16695087924816392248 : Nat := 0
def PySem.W.Fast.tw11527560967334429510 : Nat := 0
def PySem.W.Fast.tw8784323723796738752 : Nat := 0
def PySem.W.Fast.tw9479725425280820347 : Nat := 0
def PySem.W.Fast.tw8795620990141166339 : Nat := 0
def PySem.W.Fast.tw18176171091007519897 : Nat := 0
def PySem.W.Fast.tw3844413827098195698 : Nat := 0
def PySem.W.Fast.tw6379502611598608073 : Nat := 0
open PySem PySem.W PyProof.Rows L2 WP
set_option maxRecDepth 100000 in
set_option maxHeartbeats 0 in
theorem PySem.Challenge.cw_waitchains_s01_answers_holds : PySem.Challenge.rw_waitchains_s01_answers.Holds := by
  w_on; k_headS; (case hw => exact ⟨[.list [.int 13]], by decide +kernel, by decide +kernel⟩)
  k_fillS
  refine L2.walk_specK (r := PySem.Challenge.rw_waitchains_s01_answers) (k := 11) (CX := L2.CX0) (ps := ["calls"]) (sp := WP.sp_top) (by decide +kernel) rfl rfl ⟨rfl, by decide, by decide⟩ (fun w h Y => PySem.W.kIn_of Y) ?F ?S (fun _ _ _ _ z => z)
  case F =>
    intro w mg fa h Y KX G hmg
    have hC_Thing : ∃ C f fd, At_Thing (kOf KX) mg C f fd := by
      dsimp only [kOf]
      refine' mk_Thing KX G ?aC ?a1 ?i1 ?l1 ?c1 ?k1 ?pg ?hd ?po ?sa ?mk ?kc ?n_number ?n_priority ?n_holds ?n_chain ?n_due ?n_rest
      (case aC => k_is)
      (case a1 => k_is)
      (case i1 => k_is)
      (case l1 => k_is)
      (case c1 => k_is)
      (case k1 => k_is)
      (case pg => k_is)
      (case hd => k_is)
      (case po => k_is)
      (case sa => k_is)
      (case mk => k_is)
      (case kc => k_is)
      (case n_number => k_is)
      (case n_priority => k_is)
      (case n_holds => k_is)
      (case n_chain => k_is)
      (case n_due => k_is)
      (case n_rest => k_is)
    have hC_Calendar : ∃ C f fd, At_Calendar (kOf KX) mg C f fd := by
      dsimp only [kOf]
      refine' mk_Calendar KX G ?aC ?a1 ?i1 ?l1 ?c1 ?k1 ?pg ?hd ?po ?sa ?mk ?kc ?n_clock ?n_things ?n_chains
      (case aC => k_is)
      (case a1 => k_is)
      (case i1 => k_is)
      (case l1 => k_is)
      (case c1 => k_is)
      (case k1 => k_is)
      (case pg => k_is)
      (case hd => k_is)
      (case po => k_is)
      (case sa => k_is)
      (case mk => k_is)
      (case kc => k_is)
      (case n_clock => k_is)
      (case n_things => k_is)
      (case n_chains => k_is)
    have hF_become : ∃ f fd, DefAt (kOf KX) mg "become" s_become ["calendar", "other"] f fd := by
      dsimp only [kOf]
      refine' def_mk KX G ?a ?l ?c ?k (fun _ _ _ _ _ _ us hl => match us, hl with | [_, _], _ => rfl)
      (case a => k_is); (case l => k_is); (case c => k_is); (case k => k_is)
    have hF_order_key : ∃ f fd, DefAt (kOf KX) mg "order_key" s_order_key ["thing"] f fd := by
      dsimp only [kOf]
      refine' def_mk KX G ?a ?l ?c ?k (fun _ _ _ _ _ _ us hl => match us, hl with | [_], _ => rfl)
      (case a => k_is); (case l => k_is); (case c => k_is); (case k => k_is)
    have hF_place_on_chain : ∃ f fd, DefAt (kOf KX) mg "place_on_chain" s_place_on_chain ["calendar", "thing", "in_front"] f fd := by
      dsimp only [kOf]
      refine' def_mk KX G ?a ?l ?c ?k (fun _ _ _ _ _ _ us hl => match us, hl with | [_, _, _], _ => rfl)
      (case a => k_is); (case l => k_is); (case c => k_is); (case k => k_is)
    have hF_put_behind : ∃ f fd, DefAt (kOf KX) mg "put_behind" s_put_behind ["calendar", "thing"] f fd := by
      dsimp only [kOf]
      refine' def_mk KX G ?a ?l ?c ?k (fun _ _ _ _ _ _ us hl => match us, hl with | [_, _], _ => rfl)
      (case a => k_is); (case l => k_is); (case c => k_is); (case k => k_is)
    have hF_put_in_front : ∃ f fd, DefAt (kOf KX) mg "put_in_front" s_put_in_front ["calendar", "thing"] f fd := by
      dsimp only [kOf]
      refine' def_mk KX G ?a ?l ?c ?k (fun _ _ _ _ _ _ us hl => match us, hl with | [_, _], _ => rfl)
      (case a => k_is); (case l => k_is); (case c => k_is); (case k => k_is)
    have hF_take_off : ∃ f fd, DefAt (kOf KX) mg "take_off" s_take_off ["calendar", "thing"] f fd := by
      dsimp only [kOf]
      refine' def_mk KX G ?a ?l ?c ?k (fun _ _ _ _ _ _ us hl => match us, hl with | [_, _], _ => rfl)
      (case a => k_is); (case l => k_is); (case c => k_is); (case k => k_is)
    have hF_move : ∃ f fd, DefAt (kOf KX) mg "move" s_move ["calendar", "thing", "chain", "due", "rest"] f fd := by
      dsimp only [kOf]
      refine' def_mk KX G ?a ?l ?c ?k (fun _ _ _ _ _ _ us hl => match us, hl with | [_, _, _, _, _], _ => rfl)
      (case a => k_is); (case l => k_is); (case c => k_is); (case k => k_is)
    have hF_move_to_current : ∃ f fd, DefAt (kOf KX) mg "move_to_current" s_move_to_current ["calendar", "thing"] f fd := by
      dsimp only [kOf]
      refine' def_mk KX G ?a ?l ?c ?k (fun _ _ _ _ _ _ us hl => match us, hl with | [_, _], _ => rfl)
      (case a => k_is); (case l => k_is); (case c => k_is); (case k => k_is)
    have hF_move_to_future : ∃ f fd, DefAt (kOf KX) mg "move_to_future" s_move_to_future ["calendar", "thing", "wait"] f fd := by
      dsimp only [kOf]
      refine' def_mk KX G ?a ?l ?c ?k (fun _ _ _ _ _ _ us hl => match us, hl with | [_, _, _], _ => rfl)
      (case a => k_is); (case l => k_is); (case c => k_is); (case k => k_is)
    have hF_move_to_frozen : ∃ f fd, DefAt (kOf KX) mg "move_to_frozen" s_move_to_frozen ["calendar", "thing", "rest"] f fd := by
      dsimp only [kOf]
      refine' def_mk KX G ?a ?l ?c ?k (fun _ _ _ _ _ _ us hl => match us, hl with | [_, _, _], _ => rfl)
      (case a => k_is); (case l => k_is); (case c => k_is); (case k => k_is)
    have hF_move_to_asleep : ∃ f fd, DefAt (kOf KX) mg "move_to_asleep" s_move_to_asleep ["calendar", "thing"] f fd := by
      dsimp only [kOf]
      refine' def_mk KX G ?a ?l ?c ?k (fun _ _ _ _ _ _ us hl => match us, hl with | [_, _], _ => rfl)
      (case a => k_is); (case l => k_is); (case c => k_is); (case k => k_is)
    have hF_time_left : ∃ f fd, DefAt (kOf KX) mg "time_left" s_time_left ["calendar", "thing"] f fd := by
      dsimp only [kOf]
      refine' def_mk KX G ?a ?l ?c ?k (fun _ _ _ _ _ _ us hl => match us, hl with | [_, _], _ => rfl)
      (case a => k_is); (case l => k_is); (case c => k_is); (case k => k_is)
    have hF_thing_from : ∃ f fd, DefAt (kOf KX) mg "thing_from" s_thing_from ["chain", "numbers"] f fd := by
      dsimp only [kOf]
      refine' def_mk KX G ?a ?l ?c ?k (fun _ _ _ _ _ _ us hl => match us, hl with | [_, _], _ => rfl)
      (case a => k_is); (case l => k_is); (case c => k_is); (case k => k_is)
    have hF_in_its_ranges : ∃ f fd, DefAt (kOf KX) mg "in_its_ranges" s_in_its_ranges ["calendar", "thing"] f fd := by
      dsimp only [kOf]
      refine' def_mk KX G ?a ?l ?c ?k (fun _ _ _ _ _ _ us hl => match us, hl with | [_, _], _ => rfl)
      (case a => k_is); (case l => k_is); (case c => k_is); (case k => k_is)
    have hF_keeps_order : ∃ f fd, DefAt (kOf KX) mg "keeps_order" s_keeps_order ["calendar", "thing"] f fd := by
      dsimp only [kOf]
      refine' def_mk KX G ?a ?l ?c ?k (fun _ _ _ _ _ _ us hl => match us, hl with | [_, _], _ => rfl)
      (case a => k_is); (case l => k_is); (case c => k_is); (case k => k_is)
    have hF_may_be_last : ∃ f fd, DefAt (kOf KX) mg "may_be_last" s_may_be_last ["calendar", "thing"] f fd := by
      dsimp only [kOf]
      refine' def_mk KX G ?a ?l ?c ?k (fun _ _ _ _ _ _ us hl => match us, hl with | [_, _], _ => rfl)
      (case a => k_is); (case l => k_is); (case c => k_is); (case k => k_is)
    have hF_chain_end : ∃ f fd, DefAt (kOf KX) mg "chain_end" s_chain_end ["row", "start", "width"] f fd := by
      dsimp only [kOf]
      refine' def_mk KX G ?a ?l ?c ?k (fun _ _ _ _ _ _ us hl => match us, hl with | [_, _, _], _ => rfl)
      (case a => k_is); (case l => k_is); (case c => k_is); (case k => k_is)
    have hF_read_chain : ∃ f fd, DefAt (kOf KX) mg "read_chain" s_read_chain ["calendar", "chain", "numbers"] f fd := by
      dsimp only [kOf]
      refine' def_mk KX G ?a ?l ?c ?k (fun _ _ _ _ _ _ us hl => match us, hl with | [_, _, _], _ => rfl)
      (case a => k_is); (case l => k_is); (case c => k_is); (case k => k_is)
    have hF_calendar_from : ∃ f fd, DefAt (kOf KX) mg "calendar_from" s_calendar_from ["row"] f fd := by
      dsimp only [kOf]
      refine' def_mk KX G ?a ?l ?c ?k (fun _ _ _ _ _ _ us hl => match us, hl with | [_], _ => rfl)
      (case a => k_is); (case l => k_is); (case c => k_is); (case k => k_is)
    have hF_load : ∃ f fd, DefAt (kOf KX) mg "load" s_load ["calendar", "row"] f fd := by
      dsimp only [kOf]
      refine' def_mk KX G ?a ?l ?c ?k (fun _ _ _ _ _ _ us hl => match us, hl with | [_, _], _ => rfl)
      (case a => k_is); (case l => k_is); (case c => k_is); (case k => k_is)
    have hF_clear : ∃ f fd, DefAt (kOf KX) mg "clear" s_clear ["calendar"] f fd := by
      dsimp only [kOf]
      refine' def_mk KX G ?a ?l ?c ?k (fun _ _ _ _ _ _ us hl => match us, hl with | [_], _ => rfl)
      (case a => k_is); (case l => k_is); (case c => k_is); (case k => k_is)
    have hF_ready_ids : ∃ f fd, DefAt (kOf KX) mg "ready_ids" s_ready_ids ["calendar"] f fd := by
      dsimp only [kOf]
      refine' def_mk KX G ?a ?l ?c ?k (fun _ _ _ _ _ _ us hl => match us, hl with | [_], _ => rfl)
      (case a => k_is); (case l => k_is); (case c => k_is); (case k => k_is)
    have hF_ready : ∃ f fd, DefAt (kOf KX) mg "ready" s_ready ["calendar"] f fd := by
      dsimp only [kOf]
      refine' def_mk KX G ?a ?l ?c ?k (fun _ _ _ _ _ _ us hl => match us, hl with | [_], _ => rfl)
      (case a => k_is); (case l => k_is); (case c => k_is); (case k => k_is)
    have hF_first : ∃ f fd, DefAt (kOf KX) mg "first" s_first ["calendar"] f fd := by
      dsimp only [kOf]
      refine' def_mk KX G ?a ?l ?c ?k (fun _ _ _ _ _ _ us hl => match us, hl with | [_], _ => rfl)
      (case a => k_is); (case l => k_is); (case c => k_is); (case k => k_is)
    have hF_due_or_rest : ∃ f fd, DefAt (kOf KX) mg "due_or_rest" s_due_or_rest ["thing"] f fd := by
      dsimp only [kOf]
      refine' def_mk KX G ?a ?l ?c ?k (fun _ _ _ _ _ _ us hl => match us, hl with | [_], _ => rfl)
      (case a => k_is); (case l => k_is); (case c => k_is); (case k => k_is)
    have hF_where : ∃ f fd, DefAt (kOf KX) mg "where" s_where ["calendar", "number"] f fd := by
      dsimp only [kOf]
      refine' def_mk KX G ?a ?l ?c ?k (fun _ _ _ _ _ _ us hl => match us, hl with | [_, _], _ => rfl)
      (case a => k_is); (case l => k_is); (case c => k_is); (case k => k_is)
    have hF_chain_ids : ∃ f fd, DefAt (kOf KX) mg "chain_ids" s_chain_ids ["calendar", "chain"] f fd := by
      dsimp only [kOf]
      refine' def_mk KX G ?a ?l ?c ?k (fun _ _ _ _ _ _ us hl => match us, hl with | [_, _], _ => rfl)
      (case a => k_is); (case l => k_is); (case c => k_is); (case k => k_is)
    have hF_sizes : ∃ f fd, DefAt (kOf KX) mg "sizes" s_sizes ["calendar"] f fd := by
      dsimp only [kOf]
      refine' def_mk KX G ?a ?l ?c ?k (fun _ _ _ _ _ _ us hl => match us, hl with | [_], _ => rfl)
      (case a => k_is); (case l => k_is); (case c => k_is); (case k => k_is)
    have hF_told_thing : ∃ f fd, DefAt (kOf KX) mg "told_thing" s_told_thing ["thing"] f fd := by
      dsimp only [kOf]
      refine' def_mk KX G ?a ?l ?c ?k (fun _ _ _ _ _ _ us hl => match us, hl with | [_], _ => rfl)
      (case a => k_is); (case l => k_is); (case c => k_is); (case k => k_is)
    have hF_told : ∃ f fd, DefAt (kOf KX) mg "told" s_told ["calendar"] f fd := by
      dsimp only [kOf]
      refine' def_mk KX G ?a ?l ?c ?k (fun _ _ _ _ _ _ us hl => match us, hl with | [_], _ => rfl)
      (case a => k_is); (case l => k_is); (case c => k_is); (case k => k_is)
    have hF_join_refusal : ∃ f fd, DefAt (kOf KX) mg "join_refusal" s_join_refusal ["known", "number", "priority"] f fd := by
      dsimp only [kOf]
      refine' def_mk KX G ?a ?l ?c ?k (fun _ _ _ _ _ _ us hl => match us, hl with | [_, _, _], _ => rfl)
      (case a => k_is); (case l => k_is); (case c => k_is); (case k => k_is)
    have hF_joinall_refusal : ∃ f fd, DefAt (kOf KX) mg "joinall_refusal" s_joinall_refusal ["known", "pairs"] f fd := by
      dsimp only [kOf]
      refine' def_mk KX G ?a ?l ?c ?k (fun _ _ _ _ _ _ us hl => match us, hl with | [_, _], _ => rfl)
      (case a => k_is); (case l => k_is); (case c => k_is); (case k => k_is)
    have hF_add_thing : ∃ f fd, DefAt (kOf KX) mg "add_thing" s_add_thing ["calendar", "number", "priority"] f fd := by
      dsimp only [kOf]
      refine' def_mk KX G ?a ?l ?c ?k (fun _ _ _ _ _ _ us hl => match us, hl with | [_, _, _], _ => rfl)
      (case a => k_is); (case l => k_is); (case c => k_is); (case k => k_is)
    have hF_join : ∃ f fd, DefAt (kOf KX) mg "join" s_join ["calendar", "number", "priority"] f fd := by
      dsimp only [kOf]
      refine' def_mk KX G ?a ?l ?c ?k (fun _ _ _ _ _ _ us hl => match us, hl with | [_, _, _], _ => rfl)
      (case a => k_is); (case l => k_is); (case c => k_is); (case k => k_is)
    have hF_joinall : ∃ f fd, DefAt (kOf KX) mg "joinall" s_joinall ["calendar", "pairs"] f fd := by
      dsimp only [kOf]
      refine' def_mk KX G ?a ?l ?c ?k (fun _ _ _ _ _ _ us hl => match us, hl with | [_, _], _ => rfl)
      (case a => k_is); (case l => k_is); (case c => k_is); (case k => k_is)
    have hF_begin_wait : ∃ f fd, DefAt (kOf KX) mg "begin_wait" s_begin_wait ["calendar", "thing", "wait"] f fd := by
      dsimp only [kOf]
      refine' def_mk KX G ?a ?l ?c ?k (fun _ _ _ _ _ _ us hl => match us, hl with | [_, _, _], _ => rfl)
      (case a => k_is); (case l => k_is); (case c => k_is); (case k => k_is)
    have hF_delay : ∃ f fd, DefAt (kOf KX) mg "delay" s_delay ["calendar", "number", "wait"] f fd := by
      dsimp only [kOf]
      refine' def_mk KX G ?a ?l ?c ?k (fun _ _ _ _ _ _ us hl => match us, hl with | [_, _, _], _ => rfl)
      (case a => k_is); (case l => k_is); (case c => k_is); (case k => k_is)
    have hF_at : ∃ f fd, DefAt (kOf KX) mg "at" s_at ["calendar", "number", "time"] f fd := by
      dsimp only [kOf]
      refine' def_mk KX G ?a ?l ?c ?k (fun _ _ _ _ _ _ us hl => match us, hl with | [_, _, _], _ => rfl)
      (case a => k_is); (case l => k_is); (case c => k_is); (case k => k_is)
    have hF_retime : ∃ f fd, DefAt (kOf KX) mg "retime" s_retime ["calendar", "number", "wait"] f fd := by
      dsimp only [kOf]
      refine' def_mk KX G ?a ?l ?c ?k (fun _ _ _ _ _ _ us hl => match us, hl with | [_, _, _], _ => rfl)
      (case a => k_is); (case l => k_is); (case c => k_is); (case k => k_is)
    have hF_sleep : ∃ f fd, DefAt (kOf KX) mg "sleep" s_sleep ["calendar", "number"] f fd := by
      dsimp only [kOf]
      refine' def_mk KX G ?a ?l ?c ?k (fun _ _ _ _ _ _ us hl => match us, hl with | [_, _], _ => rfl)
      (case a => k_is); (case l => k_is); (case c => k_is); (case k => k_is)
    have hF_wake : ∃ f fd, DefAt (kOf KX) mg "wake" s_wake ["calendar", "number"] f fd := by
      dsimp only [kOf]
      refine' def_mk KX G ?a ?l ?c ?k (fun _ _ _ _ _ _ us hl => match us, hl with | [_, _], _ => rfl)
      (case a => k_is); (case l => k_is); (case c => k_is); (case k => k_is)
    have hF_drop : ∃ f fd, DefAt (kOf KX) mg "drop" s_drop ["calendar", "number"] f fd := by
      dsimp only [kOf]
      refine' def_mk KX G ?a ?l ?c ?k (fun _ _ _ _ _ _ us hl => match us, hl with | [_, _], _ => rfl)
      (case a => k_is); (case l => k_is); (case c => k_is); (case k => k_is)
    have hF_rank : ∃ f fd, DefAt (kOf KX) mg "rank" s_rank ["calendar", "number", "priority"] f fd := by
      dsimp only [kOf]
      refine' def_mk KX G ?a ?l ?c ?k (fun _ _ _ _ _ _ us hl => match us, hl with | [_, _, _], _ => rfl)
      (case a => k_is); (case l => k_is); (case c => k_is); (case k => k_is)
    have hF_hold : ∃ f fd, DefAt (kOf KX) mg "hold" s_hold ["calendar", "number"] f fd := by
      dsimp only [kOf]
      refine' def_mk KX G ?a ?l ?c ?k (fun _ _ _ _ _ _ us hl => match us, hl with | [_, _], _ => rfl)
      (case a => k_is); (case l => k_is); (case c => k_is); (case k => k_is)
    have hF_free : ∃ f fd, DefAt (kOf KX) mg "free" s_free ["calendar", "number"] f fd := by
      dsimp only [kOf]
      refine' def_mk KX G ?a ?l ?c ?k (fun _ _ _ _ _ _ us hl => match us, hl with | [_, _], _ => rfl)
      (case a => k_is); (case l => k_is); (case c => k_is); (case k => k_is)
    have hF_fetch : ∃ f fd, DefAt (kOf KX) mg "fetch" s_fetch ["calendar", "number"] f fd := by
      dsimp only [kOf]
      refine' def_mk KX G ?a ?l ?c ?k (fun _ _ _ _ _ _ us hl => match us, hl with | [_, _], _ => rfl)
      (case a => k_is); (case l => k_is); (case c => k_is); (case k => k_is)
    have hF_ahead : ∃ f fd, DefAt (kOf KX) mg "ahead" s_ahead ["calendar", "number"] f fd := by
      dsimp only [kOf]
      refine' def_mk KX G ?a ?l ?c ?k (fun _ _ _ _ _ _ us hl => match us, hl with | [_, _], _ => rfl)
      (case a => k_is); (case l => k_is); (case c => k_is); (case k => k_is)
    have hF_least_due : ∃ f fd, DefAt (kOf KX) mg "least_due" s_least_due ["calendar"] f fd := by
      dsimp only [kOf]
      refine' def_mk KX G ?a ?l ?c ?k (fun _ _ _ _ _ _ us hl => match us, hl with | [_], _ => rfl)
      (case a => k_is); (case l => k_is); (case c => k_is); (case k => k_is)
    have hF_waits_until : ∃ f fd, DefAt (kOf KX) mg "waits_until" s_waits_until ["calendar", "time"] f fd := by
      dsimp only [kOf]
      refine' def_mk KX G ?a ?l ?c ?k (fun _ _ _ _ _ _ us hl => match us, hl with | [_, _], _ => rfl)
      (case a => k_is); (case l => k_is); (case c => k_is); (case k => k_is)
    have hF_ids_with_least_due : ∃ f fd, DefAt (kOf KX) mg "ids_with_least_due" s_ids_with_least_due ["calendar"] f fd := by
      dsimp only [kOf]
      refine' def_mk KX G ?a ?l ?c ?k (fun _ _ _ _ _ _ us hl => match us, hl with | [_], _ => rfl)
      (case a => k_is); (case l => k_is); (case c => k_is); (case k => k_is)
    have hF_make_turn : ∃ f fd, DefAt (kOf KX) mg "make_turn" s_make_turn ["calendar"] f fd := by
      dsimp only [kOf]
      refine' def_mk KX G ?a ?l ?c ?k (fun _ _ _ _ _ _ us hl => match us, hl with | [_], _ => rfl)
      (case a => k_is); (case l => k_is); (case c => k_is); (case k => k_is)
    have hF_turn : ∃ f fd, DefAt (kOf KX) mg "turn" s_turn ["calendar"] f fd := by
      dsimp only [kOf]
      refine' def_mk KX G ?a ?l ?c ?k (fun _ _ _ _ _ _ us hl => match us, hl with | [_], _ => rfl)
      (case a => k_is); (case l => k_is); (case c => k_is); (case k => k_is)
    have hF_until : ∃ f fd, DefAt (kOf KX) mg "until" s_until ["calendar", "time"] f fd := by
      dsimp only [kOf]
      refine' def_mk KX G ?a ?l ?c ?k (fun _ _ _ _ _ _ us hl => match us, hl with | [_, _], _ => rfl)
      (case a => k_is); (case l => k_is); (case c => k_is); (case k => k_is)
    have hF_slip : ∃ f fd, DefAt (kOf KX) mg "slip" s_slip ["calendar", "wait"] f fd := by
      dsimp only [kOf]
      refine' def_mk KX G ?a ?l ?c ?k (fun _ _ _ _ _ _ us hl => match us, hl with | [_, _], _ => rfl)
      (case a => k_is); (case l => k_is); (case c => k_is); (case k => k_is)
    have hF_next_due : ∃ f fd, DefAt (kOf KX) mg "next_due" s_next_due ["calendar"] f fd := by
      dsimp only [kOf]
      refine' def_mk KX G ?a ?l ?c ?k (fun _ _ _ _ _ _ us hl => match us, hl with | [_], _ => rfl)
      (case a => k_is); (case l => k_is); (case c => k_is); (case k => k_is)
    have hF_has_row : ∃ f fd, DefAt (kOf KX) mg "has_row" s_has_row ["place"] f fd := by
      dsimp only [kOf]
      refine' def_mk KX G ?a ?l ?c ?k (fun _ _ _ _ _ _ us hl => match us, hl with | [_], _ => rfl)
      (case a => k_is); (case l => k_is); (case c => k_is); (case k => k_is)
    have hF_call_end : ∃ f fd, DefAt (kOf KX) mg "call_end" s_call_end ["calls", "start"] f fd := by
      dsimp only [kOf]
      refine' def_mk KX G ?a ?l ?c ?k (fun _ _ _ _ _ _ us hl => match us, hl with | [_, _], _ => rfl)
      (case a => k_is); (case l => k_is); (case c => k_is); (case k => k_is)
    have hF_answer_row : ∃ f fd, DefAt (kOf KX) mg "answer_row" s_answer_row ["calendar", "place", "row"] f fd := by
      dsimp only [kOf]
      refine' def_mk KX G ?a ?l ?c ?k (fun _ _ _ _ _ _ us hl => match us, hl with | [_, _, _], _ => rfl)
      (case a => k_is); (case l => k_is); (case c => k_is); (case k => k_is)
    have hF_answer_two_numbers : ∃ f fd, DefAt (kOf KX) mg "answer_two_numbers" s_answer_two_numbers ["calendar", "place", "number", "value"] f fd := by
      dsimp only [kOf]
      refine' def_mk KX G ?a ?l ?c ?k (fun _ _ _ _ _ _ us hl => match us, hl with | [_, _, _, _], _ => rfl)
      (case a => k_is); (case l => k_is); (case c => k_is); (case k => k_is)
    have hF_answer_one_number : ∃ f fd, DefAt (kOf KX) mg "answer_one_number" s_answer_one_number ["calendar", "place", "number"] f fd := by
      dsimp only [kOf]
      refine' def_mk KX G ?a ?l ?c ?k (fun _ _ _ _ _ _ us hl => match us, hl with | [_, _, _], _ => rfl)
      (case a => k_is); (case l => k_is); (case c => k_is); (case k => k_is)
    have hF_answer_no_number : ∃ f fd, DefAt (kOf KX) mg "answer_no_number" s_answer_no_number ["calendar", "place"] f fd := by
      dsimp only [kOf]
      refine' def_mk KX G ?a ?l ?c ?k (fun _ _ _ _ _ _ us hl => match us, hl with | [_, _], _ => rfl)
      (case a => k_is); (case l => k_is); (case c => k_is); (case k => k_is)
    have hF_answer_call : ∃ f fd, DefAt (kOf KX) mg "answer_call" s_answer_call ["calendar", "calls", "start", "end"] f fd := by
      dsimp only [kOf]
      refine' def_mk KX G ?a ?l ?c ?k (fun _ _ _ _ _ _ us hl => match us, hl with | [_, _, _, _], _ => rfl)
      (case a => k_is); (case l => k_is); (case c => k_is); (case k => k_is)
    have hF_answers : ∃ f fd, DefAt (kOf KX) mg "answers" s_answers ["calls"] f fd := by
      dsimp only [kOf]
      refine' def_mk KX G ?a ?l ?c ?k (fun _ _ _ _ _ _ us hl => match us, hl with | [_], _ => rfl)
      (case a => k_is); (case l => k_is); (case c => k_is); (case k => k_is)
    have hK_FAR : ∃ t, mg "FAR" = some (.int (10000000000000) t) := by
      refine' const_mk KX G ?e
      (case e => k_is)
    have hK_END : ∃ t, mg "END" = some (.int (1000000000000000) t) := by
      refine' const_mk KX G ?e
      (case e => k_is)
    have hK_LEAST_ID : ∃ t, mg "LEAST_ID" = some (.int (1) t) := by
      refine' const_mk KX G ?e
      (case e => k_is)
    have hK_GREATEST_ID : ∃ t, mg "GREATEST_ID" = some (.int (1000000000) t) := by
      refine' const_mk KX G ?e
      (case e => k_is)
    have hK_LEAST_PRIORITY : ∃ t, mg "LEAST_PRIORITY" = some (.int (-1000) t) := by
      refine' const_mk KX G ?e
      (case e => k_is)
    have hK_GREATEST_PRIORITY : ∃ t, mg "GREATEST_PRIORITY" = some (.int (1000) t) := by
      refine' const_mk KX G ?e
      (case e => k_is)
    have hK_MOST_KNOWN : ∃ t, mg "MOST_KNOWN" = some (.int (2000) t) := by
      refine' const_mk KX G ?e
      (case e => k_is)
    have hK_MOST_HOLDS : ∃ t, mg "MOST_HOLDS" = some (.int (1000) t) := by
      refine' const_mk KX G ?e
      (case e => k_is)
    have hK_CURRENT : ∃ t, mg "CURRENT" = some (.int (0) t) := by
      refine' const_mk KX G ?e
      (case e => k_is)
    have hK_FUTURE : ∃ t, mg "FUTURE" = some (.int (1) t) := by
      refine' const_mk KX G ?e
      (case e => k_is)
    have hK_FROZEN : ∃ t, mg "FROZEN" = some (.int (2) t) := by
      refine' const_mk KX G ?e
      (case e => k_is)
    have hK_ASLEEP : ∃ t, mg "ASLEEP" = some (.int (3) t) := by
      refine' const_mk KX G ?e
      (case e => k_is)
    have hK_DONE : ∃ t, mg "DONE" = some (.int (0) t) := by
      refine' const_mk KX G ?e
      (case e => k_is)
    have hK_BAD_ID : ∃ t, mg "BAD_ID" = some (.int (-1) t) := by
      refine' const_mk KX G ?e
      (case e => k_is)
    have hK_BAD_PRIORITY : ∃ t, mg "BAD_PRIORITY" = some (.int (-2) t) := by
      refine' const_mk KX G ?e
      (case e => k_is)
    have hK_ID_IS_KNOWN : ∃ t, mg "ID_IS_KNOWN" = some (.int (-3) t) := by
      refine' const_mk KX G ?e
      (case e => k_is)
    have hK_ALL_ARE_KNOWN : ∃ t, mg "ALL_ARE_KNOWN" = some (.int (-4) t) := by
      refine' const_mk KX G ?e
      (case e => k_is)
    have hK_NOT_KNOWN : ∃ t, mg "NOT_KNOWN" = some (.int (-5) t) := by
      refine' const_mk KX G ?e
      (case e => k_is)
    have hK_BAD_TIME : ∃ t, mg "BAD_TIME" = some (.int (-6) t) := by
      refine' const_mk KX G ?e
      (case e => k_is)
    have hK_WRONG_CHAIN : ∃ t, mg "WRONG_CHAIN" = some (.int (-7) t) := by
      refine' const_mk KX G ?e
      (case e => k_is)
    have hK_NO_HOLDS : ∃ t, mg "NO_HOLDS" = some (.int (-10) t) := by
      refine' const_mk KX G ?e
      (case e => k_is)
    have hK_NOTHING_IS_DUE : ∃ t, mg "NOTHING_IS_DUE" = some (.int (-11) t) := by
      refine' const_mk KX G ?e
      (case e => k_is)
    have hK_TOO_LATE : ∃ t, mg "TOO_LATE" = some (.int (-12) t) := by
      refine' const_mk KX G ?e
      (case e => k_is)
    have hK_BAD_CHAIN : ∃ t, mg "BAD_CHAIN" = some (.int (-13) t) := by
      refine' const_mk KX G ?e
      (case e => k_is)
    have hK_BAD_STATE : ∃ t, mg "BAD_STATE" = some (.int (-14) t) := by
      refine' const_mk KX G ?e
      (case e => k_is)
    have hK_ODD_ROW : ∃ t, mg "ODD_ROW" = some (.int (-15) t) := by
      refine' const_mk KX G ?e
      (case e => k_is)
    have hK_ALL_HOLDS : ∃ t, mg "ALL_HOLDS" = some (.int (-16) t) := by
      refine' const_mk KX G ?e
      (case e => k_is)
    have hK_JOINALL : ∃ t, mg "JOINALL" = some (.int (1) t) := by
      refine' const_mk KX G ?e
      (case e => k_is)
    have hK_LOAD : ∃ t, mg "LOAD" = some (.int (23) t) := by
      refine' const_mk KX G ?e
      (case e => k_is)
    have hT_NUMBER_COUNTS : ∃ a, Tab (kOf KX) mg "NUMBER_COUNTS" a [(0, 2), (2, 2), (3, 2), (4, 2), (5, 1), (6, 1), (7, 1), (8, 2), (9, 1), (10, 1), (11, 1), (12, 1), (13, 0), (14, 0), (15, 0), (16, 1), (17, 1), (18, 1), (19, 1), (20, 0), (21, 0), (22, 0), (24, 0)] := by
      dsimp only [kOf]
      refine' tab_mk KX G ?e ?l ?i (by decide)
      (case e => k_is); (case l => k_is); (case i => decide +kernel)
    have hU_WIDTHS : ∃ a, Tupl (kOf KX) mg "WIDTHS" a [3, 3, 4, 3] := by
      dsimp only [kOf]
      refine' tupl_mk KX G ?e ?l ?i ?s
      (case e => k_is); (case l => k_is); (case i => decide +kernel); (case s => decide +kernel)
    have hN_dict : mg "dict" = none := by
      refine' PySem.W.mg_none_of KX G ?e
      (case e => k_is)
    have hN_len : mg "len" = none := by
      refine' PySem.W.mg_none_of KX G ?e
      (case e => k_is)
    have hN_range : mg "range" = none := by
      refine' PySem.W.mg_none_of KX G ?e
      (case e => k_is)
    obtain ⟨c_Thing, f_Thing_init, d_Thing_init, C_Thing⟩ := hC_Thing
    obtain ⟨c_Calendar, f_Calendar_init, d_Calendar_init, C_Calendar⟩ := hC_Calendar
    obtain ⟨f_become, d_become, F_become⟩ := hF_become
    obtain ⟨f_order_key, d_order_key, F_order_key⟩ := hF_order_key
    obtain ⟨f_place_on_chain, d_place_on_chain, F_place_on_chain⟩ := hF_place_on_chain
    obtain ⟨f_put_behind, d_put_behind, F_put_behind⟩ := hF_put_behind
    obtain ⟨f_put_in_front, d_put_in_front, F_put_in_front⟩ := hF_put_in_front
    obtain ⟨f_take_off, d_take_off, F_take_off⟩ := hF_take_off
    obtain ⟨f_move, d_move, F_move⟩ := hF_move
    obtain ⟨f_move_to_current, d_move_to_current, F_move_to_current⟩ := hF_move_to_current
    obtain ⟨f_move_to_future, d_move_to_future, F_move_to_future⟩ := hF_move_to_future
    obtain ⟨f_move_to_frozen, d_move_to_frozen, F_move_to_frozen⟩ := hF_move_to_frozen
    obtain ⟨f_move_to_asleep, d_move_to_asleep, F_move_to_asleep⟩ := hF_move_to_asleep
    obtain ⟨f_time_left, d_time_left, F_time_left⟩ := hF_time_left
    obtain ⟨f_thing_from, d_thing_from, F_thing_from⟩ := hF_thing_from
    obtain ⟨f_in_its_ranges, d_in_its_ranges, F_in_its_ranges⟩ := hF_in_its_ranges
    obtain ⟨f_keeps_order, d_keeps_order, F_keeps_order⟩ := hF_keeps_order
    obtain ⟨f_may_be_last, d_may_be_last, F_may_be_last⟩ := hF_may_be_last
    obtain ⟨f_chain_end, d_chain_end, F_chain_end⟩ := hF_chain_end
    obtain ⟨f_read_chain, d_read_chain, F_read_chain⟩ := hF_read_chain
    obtain ⟨f_calendar_from, d_calendar_from, F_calendar_from⟩ := hF_calendar_from
    obtain ⟨f_load, d_load, F_load⟩ := hF_load
    obtain ⟨f_clear, d_clear, F_clear⟩ := hF_clear
    obtain ⟨f_ready_ids, d_ready_ids, F_ready_ids⟩ := hF_ready_ids
    obtain ⟨f_ready, d_ready, F_ready⟩ := hF_ready
    obtain ⟨f_first, d_first, F_first⟩ := hF_first
    obtain ⟨f_due_or_rest, d_due_or_rest, F_due_or_rest⟩ := hF_due_or_rest
    obtain ⟨f_where, d_where, F_where⟩ := hF_where
    obtain ⟨f_chain_ids, d_chain_ids, F_chain_ids⟩ := hF_chain_ids
    obtain ⟨f_sizes, d_sizes, F_sizes⟩ := hF_sizes
    obtain ⟨f_told_thing, d_told_thing, F_told_thing⟩ := hF_told_thing
    obtain ⟨f_told, d_told, F_told⟩ := hF_told
    obtain ⟨f_join_refusal, d_join_refusal, F_join_refusal⟩ := hF_join_refusal
    obtain ⟨f_joinall_refusal, d_joinall_refusal, F_joinall_refusal⟩ := hF_joinall_refusal
    obtain ⟨f_add_thing, d_add_thing, F_add_thing⟩ := hF_add_thing
    obtain ⟨f_join, d_join, F_join⟩ := hF_join
    obtain ⟨f_joinall, d_joinall, F_joinall⟩ := hF_joinall
    obtain ⟨f_begin_wait, d_begin_wait, F_begin_wait⟩ := hF_begin_wait
    obtain ⟨f_delay, d_delay, F_delay⟩ := hF_delay
    obtain ⟨f_at, d_at, F_at⟩ := hF_at
    obtain ⟨f_retime, d_retime, F_retime⟩ := hF_retime
    obtain ⟨f_sleep, d_sleep, F_sleep⟩ := hF_sleep
    obtain ⟨f_wake, d_wake, F_wake⟩ := hF_wake
    obtain ⟨f_drop, d_drop, F_drop⟩ := hF_drop
    obtain ⟨f_rank, d_rank, F_rank⟩ := hF_rank
    obtain ⟨f_hold, d_hold, F_hold⟩ := hF_hold
    obtain ⟨f_free, d_free, F_free⟩ := hF_free
    obtain ⟨f_fetch, d_fetch, F_fetch⟩ := hF_fetch
    obtain ⟨f_ahead, d_ahead, F_ahead⟩ := hF_ahead
    obtain ⟨f_least_due, d_least_due, F_least_due⟩ := hF_least_due
    obtain ⟨f_waits_until, d_waits_until, F_waits_until⟩ := hF_waits_until
    obtain ⟨f_ids_with_least_due, d_ids_with_least_due, F_ids_with_least_due⟩ := hF_ids_with_least_due
    obtain ⟨f_make_turn, d_make_turn, F_make_turn⟩ := hF_make_turn
    obtain ⟨f_turn, d_turn, F_turn⟩ := hF_turn
    obtain ⟨f_until, d_until, F_until⟩ := hF_until
    obtain ⟨f_slip, d_slip, F_slip⟩ := hF_slip
    obtain ⟨f_next_due, d_next_due, F_next_due⟩ := hF_next_due
    obtain ⟨f_has_row, d_has_row, F_has_row⟩ := hF_has_row
    obtain ⟨f_call_end, d_call_end, F_call_end⟩ := hF_call_end
    obtain ⟨f_answer_row, d_answer_row, F_answer_row⟩ := hF_answer_row
    obtain ⟨f_answer_two_numbers, d_answer_two_numbers, F_answer_two_numbers⟩ := hF_answer_two_numbers
    obtain ⟨f_answer_one_number, d_answer_one_number, F_answer_one_number⟩ := hF_answer_one_number
    obtain ⟨f_answer_no_number, d_answer_no_number, F_answer_no_number⟩ := hF_answer_no_number
    obtain ⟨f_answer_call, d_answer_call, F_answer_call⟩ := hF_answer_call
    obtain ⟨f_answers, d_answers, F_answers⟩ := hF_answers
    obtain ⟨k_FAR, hk_FAR⟩ := hK_FAR
    obtain ⟨k_END, hk_END⟩ := hK_END
    obtain ⟨k_LEAST_ID, hk_LEAST_ID⟩ := hK_LEAST_ID
    obtain ⟨k_GREATEST_ID, hk_GREATEST_ID⟩ := hK_GREATEST_ID
    obtain ⟨k_LEAST_PRIORITY, hk_LEAST_PRIORITY⟩ := hK_LEAST_PRIORITY
    obtain ⟨k_GREATEST_PRIORITY, hk_GREATEST_PRIORITY⟩ := hK_GREATEST_PRIORITY
    obtain ⟨k_MOST_KNOWN, hk_MOST_KNOWN⟩ := hK_MOST_KNOWN
    obtain ⟨k_MOST_HOLDS, hk_MOST_HOLDS⟩ := hK_MOST_HOLDS
    obtain ⟨k_CURRENT, hk_CURRENT⟩ := hK_CURRENT
    obtain ⟨k_FUTURE, hk_FUTURE⟩ := hK_FUTURE
    obtain ⟨k_FROZEN, hk_FROZEN⟩ := hK_FROZEN
    obtain ⟨k_ASLEEP, hk_ASLEEP⟩ := hK_ASLEEP
    obtain ⟨k_DONE, hk_DONE⟩ := hK_DONE
    obtain ⟨k_BAD_ID, hk_BAD_ID⟩ := hK_BAD_ID
    obtain ⟨k_BAD_PRIORITY, hk_BAD_PRIORITY⟩ := hK_BAD_PRIORITY
    obtain ⟨k_ID_IS_KNOWN, hk_ID_IS_KNOWN⟩ := hK_ID_IS_KNOWN
    obtain ⟨k_ALL_ARE_KNOWN, hk_ALL_ARE_KNOWN⟩ := hK_ALL_ARE_KNOWN
    obtain ⟨k_NOT_KNOWN, hk_NOT_KNOWN⟩ := hK_NOT_KNOWN
    obtain ⟨k_BAD_TIME, hk_BAD_TIME⟩ := hK_BAD_TIME
    obtain ⟨k_WRONG_CHAIN, hk_WRONG_CHAIN⟩ := hK_WRONG_CHAIN
    obtain ⟨k_NO_HOLDS, hk_NO_HOLDS⟩ := hK_NO_HOLDS
    obtain ⟨k_NOTHING_IS_DUE, hk_NOTHING_IS_DUE⟩ := hK_NOTHING_IS_DUE
    obtain ⟨k_TOO_LATE, hk_TOO_LATE⟩ := hK_TOO_LATE
    obtain ⟨k_BAD_CHAIN, hk_BAD_CHAIN⟩ := hK_BAD_CHAIN
    obtain ⟨k_BAD_STATE, hk_BAD_STATE⟩ := hK_BAD_STATE
    obtain ⟨k_ODD_ROW, hk_ODD_ROW⟩ := hK_ODD_ROW
    obtain ⟨k_ALL_HOLDS, hk_ALL_HOLDS⟩ := hK_ALL_HOLDS
    obtain ⟨k_JOINALL, hk_JOINALL⟩ := hK_JOINALL
    obtain ⟨k_LOAD, hk_LOAD⟩ := hK_LOAD
    obtain ⟨a_NUMBER_COUNTS, ht_NUMBER_COUNTS⟩ := hT_NUMBER_COUNTS
    obtain ⟨a_WIDTHS, hu_WIDTHS⟩ := hU_WIDTHS
    let D : Ads := { c_Thing := c_Thing, c_Calendar := c_Calendar, f_Thing_init := f_Thing_init, d_Thing_init := d_Thing_init, f_Calendar_init := f_Calendar_init, d_Calendar_init := d_Calendar_init, f_become := f_become, d_become := d_become, f_order_key := f_order_key, d_order_key := d_order_key, f_place_on_chain := f_place_on_chain, d_place_on_chain := d_place_on_chain, f_put_behind := f_put_behind, d_put_behind := d_put_behind, f_put_in_front := f_put_in_front, d_put_in_front := d_put_in_front, f_take_off := f_take_off, d_take_off := d_take_off, f_move := f_move, d_move := d_move, f_move_to_current := f_move_to_current, d_move_to_current := d_move_to_current, f_move_to_future := f_move_to_future, d_move_to_future := d_move_to_future, f_move_to_frozen := f_move_to_frozen, d_move_to_frozen := d_move_to_frozen, f_move_to_asleep := f_move_to_asleep, d_move_to_asleep := d_move_to_asleep, f_time_left := f_time_left, d_time_left := d_time_left, f_thing_from := f_thing_from, d_thing_from := d_thing_from, f_in_its_ranges := f_in_its_ranges, d_in_its_ranges := d_in_its_ranges, f_keeps_order := f_keeps_order, d_keeps_order := d_keeps_order, f_may_be_last := f_may_be_last, d_may_be_last := d_may_be_last, f_chain_end := f_chain_end, d_chain_end := d_chain_end, f_read_chain := f_read_chain, d_read_chain := d_read_chain, f_calendar_from := f_calendar_from, d_calendar_from := d_calendar_from, f_load := f_load, d_load := d_load, f_clear := f_clear, d_clear := d_clear, f_ready_ids := f_ready_ids, d_ready_ids := d_ready_ids, f_ready := f_ready, d_ready := d_ready, f_first := f_first, d_first := d_first, f_due_or_rest := f_due_or_rest, d_due_or_rest := d_due_or_rest, f_where := f_where, d_where := d_where, f_chain_ids := f_chain_ids, d_chain_ids := d_chain_ids, f_sizes := f_sizes, d_sizes := d_sizes, f_told_thing := f_told_thing, d_told_thing := d_told_thing, f_told := f_told, d_told := d_told, f_join_refusal := f_join_refusal, d_join_refusal := d_join_refusal, f_joinall_refusal := f_joinall_refusal, d_joinall_refusal := d_joinall_refusal, f_add_thing := f_add_thing, d_add_thing := d_add_thing, f_join := f_join, d_join := d_join, f_joinall := f_joinall, d_joinall := d_joinall, f_begin_wait := f_begin_wait, d_begin_wait := d_begin_wait, f_delay := f_delay, d_delay := d_delay, f_at := f_at, d_at := d_at, f_retime := f_retime, d_retime := d_retime, f_sleep := f_sleep, d_sleep := d_sleep, f_wake := f_wake, d_wake := d_wake, f_drop := f_drop, d_drop := d_drop, f_rank := f_rank, d_rank := d_rank, f_hold := f_hold, d_hold := d_hold, f_free := f_free, d_free := d_free, f_fetch := f_fetch, d_fetch := d_fetch, f_ahead := f_ahead, d_ahead := d_ahead, f_least_due := f_least_due, d_least_due := d_least_due, f_waits_until := f_waits_until, d_waits_until := d_waits_until, f_ids_with_least_due := f_ids_with_least_due, d_ids_with_least_due := d_ids_with_least_due, f_make_turn := f_make_turn, d_make_turn := d_make_turn, f_turn := f_turn, d_turn := d_turn, f_until := f_until, d_until := d_until, f_slip := f_slip, d_slip := d_slip, f_next_due := f_next_due, d_next_due := d_next_due, f_has_row := f_has_row, d_has_row := d_has_row, f_call_end := f_call_end, d_call_end := d_call_end, f_answer_row := f_answer_row, d_answer_row := d_answer_row, f_answer_two_numbers := f_answer_two_numbers, d_answer_two_numbers := d_answer_two_numbers, f_answer_one_number := f_answer_one_number, d_answer_one_number := d_answer_one_number, f_answer_no_number := f_answer_no_number, d_answer_no_number := d_answer_no_number, f_answer_call := f_answer_call, d_answer_call := d_answer_call, f_answers := f_answers, d_answers := d_answers, k_FAR := k_FAR, k_END := k_END, k_LEAST_ID := k_LEAST_ID, k_GREATEST_ID := k_GREATEST_ID, k_LEAST_PRIORITY := k_LEAST_PRIORITY, k_GREATEST_PRIORITY := k_GREATEST_PRIORITY, k_MOST_KNOWN := k_MOST_KNOWN, k_MOST_HOLDS := k_MOST_HOLDS, k_CURRENT := k_CURRENT, k_FUTURE := k_FUTURE, k_FROZEN := k_FROZEN, k_ASLEEP := k_ASLEEP, k_DONE := k_DONE, k_BAD_ID := k_BAD_ID, k_BAD_PRIORITY := k_BAD_PRIORITY, k_ID_IS_KNOWN := k_ID_IS_KNOWN, k_ALL_ARE_KNOWN := k_ALL_ARE_KNOWN, k_NOT_KNOWN := k_NOT_KNOWN, k_BAD_TIME := k_BAD_TIME, k_WRONG_CHAIN := k_WRONG_CHAIN, k_NO_HOLDS := k_NO_HOLDS, k_NOTHING_IS_DUE := k_NOTHING_IS_DUE, k_TOO_LATE := k_TOO_LATE, k_BAD_CHAIN := k_BAD_CHAIN, k_BAD_STATE := k_BAD_STATE, k_ODD_ROW := k_ODD_ROW, k_ALL_HOLDS := k_ALL_HOLDS, k_JOINALL := k_JOINALL, k_LOAD := k_LOAD, a_NUMBER_COUNTS := a_NUMBER_COUNTS, a_WIDTHS := a_WIDTHS }
    have T : Txt (kOf KX) mg D := { l_Thing := C_Thing.l, m_Thing := C_Thing.m, g_Thing := C_Thing.g, n_Thing_number := C_Thing.n.1, n_Thing_priority := C_Thing.n.2.1, n_Thing_holds := C_Thing.n.2.2.1, n_Thing_chain := C_Thing.n.2.2.2.1, n_Thing_due := C_Thing.n.2.2.2.2.1, n_Thing_rest := C_Thing.n.2.2.2.2.2, F_Thing_init := C_Thing.F, b_Thing_init := C_Thing.b, l_Calendar := C_Calendar.l, m_Calendar := C_Calendar.m, g_Calendar := C_Calendar.g, n_Calendar_clock := C_Calendar.n.1, n_Calendar_things := C_Calendar.n.2.1, n_Calendar_chains := C_Calendar.n.2.2, F_Calendar_init := C_Calendar.F, b_Calendar_init := C_Calendar.b, F_become := F_become.F, b_become := F_become.b, g_become := F_become.g, F_order_key := F_order_key.F, b_order_key := F_order_key.b, g_order_key := F_order_key.g, F_place_on_chain := F_place_on_chain.F, b_place_on_chain := F_place_on_chain.b, g_place_on_chain := F_place_on_chain.g, F_put_behind := F_put_behind.F, b_put_behind := F_put_behind.b, g_put_behind := F_put_behind.g, F_put_in_front := F_put_in_front.F, b_put_in_front := F_put_in_front.b, g_put_in_front := F_put_in_front.g, F_take_off := F_take_off.F, b_take_off := F_take_off.b, g_take_off := F_take_off.g, F_move := F_move.F, b_move := F_move.b, g_move := F_move.g, F_move_to_current := F_move_to_current.F, b_move_to_current := F_move_to_current.b, g_move_to_current := F_move_to_current.g, F_move_to_future := F_move_to_future.F, b_move_to_future := F_move_to_future.b, g_move_to_future := F_move_to_future.g, F_move_to_frozen := F_move_to_frozen.F, b_move_to_frozen := F_move_to_frozen.b, g_move_to_frozen := F_move_to_frozen.g, F_move_to_asleep := F_move_to_asleep.F, b_move_to_asleep := F_move_to_asleep.b, g_move_to_asleep := F_move_to_asleep.g, F_time_left := F_time_left.F, b_time_left := F_time_left.b, g_time_left := F_time_left.g, F_thing_from := F_thing_from.F, b_thing_from := F_thing_from.b, g_thing_from := F_thing_from.g, F_in_its_ranges := F_in_its_ranges.F, b_in_its_ranges := F_in_its_ranges.b, g_in_its_ranges := F_in_its_ranges.g, F_keeps_order := F_keeps_order.F, b_keeps_order := F_keeps_order.b, g_keeps_order := F_keeps_order.g, F_may_be_last := F_may_be_last.F, b_may_be_last := F_may_be_last.b, g_may_be_last := F_may_be_last.g, F_chain_end := F_chain_end.F, b_chain_end := F_chain_end.b, g_chain_end := F_chain_end.g, F_read_chain := F_read_chain.F, b_read_chain := F_read_chain.b, g_read_chain := F_read_chain.g, F_calendar_from := F_calendar_from.F, b_calendar_from := F_calendar_from.b, g_calendar_from := F_calendar_from.g, F_load := F_load.F, b_load := F_load.b, g_load := F_load.g, F_clear := F_clear.F, b_clear := F_clear.b, g_clear := F_clear.g, F_ready_ids := F_ready_ids.F, b_ready_ids := F_ready_ids.b, g_ready_ids := F_ready_ids.g, F_ready := F_ready.F, b_ready := F_ready.b, g_ready := F_ready.g, F_first := F_first.F, b_first := F_first.b, g_first := F_first.g, F_due_or_rest := F_due_or_rest.F, b_due_or_rest := F_due_or_rest.b, g_due_or_rest := F_due_or_rest.g, F_where := F_where.F, b_where := F_where.b, g_where := F_where.g, F_chain_ids := F_chain_ids.F, b_chain_ids := F_chain_ids.b, g_chain_ids := F_chain_ids.g, F_sizes := F_sizes.F, b_sizes := F_sizes.b, g_sizes := F_sizes.g, F_told_thing := F_told_thing.F, b_told_thing := F_told_thing.b, g_told_thing := F_told_thing.g, F_told := F_told.F, b_told := F_told.b, g_told := F_told.g, F_join_refusal := F_join_refusal.F, b_join_refusal := F_join_refusal.b, g_join_refusal := F_join_refusal.g, F_joinall_refusal := F_joinall_refusal.F, b_joinall_refusal := F_joinall_refusal.b, g_joinall_refusal := F_joinall_refusal.g, F_add_thing := F_add_thing.F, b_add_thing := F_add_thing.b, g_add_thing := F_add_thing.g, F_join := F_join.F, b_join := F_join.b, g_join := F_join.g, F_joinall := F_joinall.F, b_joinall := F_joinall.b, g_joinall := F_joinall.g, F_begin_wait := F_begin_wait.F, b_begin_wait := F_begin_wait.b, g_begin_wait := F_begin_wait.g, F_delay := F_delay.F, b_delay := F_delay.b, g_delay := F_delay.g, F_at := F_at.F, b_at := F_at.b, g_at := F_at.g, F_retime := F_retime.F, b_retime := F_retime.b, g_retime := F_retime.g, F_sleep := F_sleep.F, b_sleep := F_sleep.b, g_sleep := F_sleep.g, F_wake := F_wake.F, b_wake := F_wake.b, g_wake := F_wake.g, F_drop := F_drop.F, b_drop := F_drop.b, g_drop := F_drop.g, F_rank := F_rank.F, b_rank := F_rank.b, g_rank := F_rank.g, F_hold := F_hold.F, b_hold := F_hold.b, g_hold := F_hold.g, F_free := F_free.F, b_free := F_free.b, g_free := F_free.g, F_fetch := F_fetch.F, b_fetch := F_fetch.b, g_fetch := F_fetch.g, F_ahead := F_ahead.F, b_ahead := F_ahead.b, g_ahead := F_ahead.g, F_least_due := F_least_due.F, b_least_due := F_least_due.b, g_least_due := F_least_due.g, F_waits_until := F_waits_until.F, b_waits_until := F_waits_until.b, g_waits_until := F_waits_until.g, F_ids_with_least_due := F_ids_with_least_due.F, b_ids_with_least_due := F_ids_with_least_due.b, g_ids_with_least_due := F_ids_with_least_due.g, F_make_turn := F_make_turn.F, b_make_turn := F_make_turn.b, g_make_turn := F_make_turn.g, F_turn := F_turn.F, b_turn := F_turn.b, g_turn := F_turn.g, F_until := F_until.F, b_until := F_until.b, g_until := F_until.g, F_slip := F_slip.F, b_slip := F_slip.b, g_slip := F_slip.g, F_next_due := F_next_due.F, b_next_due := F_next_due.b, g_next_due := F_next_due.g, F_has_row := F_has_row.F, b_has_row := F_has_row.b, g_has_row := F_has_row.g, F_call_end := F_call_end.F, b_call_end := F_call_end.b, g_call_end := F_call_end.g, F_answer_row := F_answer_row.F, b_answer_row := F_answer_row.b, g_answer_row := F_answer_row.g, F_answer_two_numbers := F_answer_two_numbers.F, b_answer_two_numbers := F_answer_two_numbers.b, g_answer_two_numbers := F_answer_two_numbers.g, F_answer_one_number := F_answer_one_number.F, b_answer_one_number := F_answer_one_number.b, g_answer_one_number := F_answer_one_number.g, F_answer_no_number := F_answer_no_number.F, b_answer_no_number := F_answer_no_number.b, g_answer_no_number := F_answer_no_number.g, F_answer_call := F_answer_call.F, b_answer_call := F_answer_call.b, g_answer_call := F_answer_call.g, F_answers := F_answers.F, b_answers := F_answers.b, g_answers := F_answers.g, c_FAR := hk_FAR, c_END := hk_END, c_LEAST_ID := hk_LEAST_ID, c_GREATEST_ID := hk_GREATEST_ID, c_LEAST_PRIORITY := hk_LEAST_PRIORITY, c_GREATEST_PRIORITY := hk_GREATEST_PRIORITY, c_MOST_KNOWN := hk_MOST_KNOWN, c_MOST_HOLDS := hk_MOST_HOLDS, c_CURRENT := hk_CURRENT, c_FUTURE := hk_FUTURE, c_FROZEN := hk_FROZEN, c_ASLEEP := hk_ASLEEP, c_DONE := hk_DONE, c_BAD_ID := hk_BAD_ID, c_BAD_PRIORITY := hk_BAD_PRIORITY, c_ID_IS_KNOWN := hk_ID_IS_KNOWN, c_ALL_ARE_KNOWN := hk_ALL_ARE_KNOWN, c_NOT_KNOWN := hk_NOT_KNOWN, c_BAD_TIME := hk_BAD_TIME, c_WRONG_CHAIN := hk_WRONG_CHAIN, c_NO_HOLDS := hk_NO_HOLDS, c_NOTHING_IS_DUE := hk_NOTHING_IS_DUE, c_TOO_LATE := hk_TOO_LATE, c_BAD_CHAIN := hk_BAD_CHAIN, c_BAD_STATE := hk_BAD_STATE, c_ODD_ROW := hk_ODD_ROW, c_ALL_HOLDS := hk_ALL_HOLDS, c_JOINALL := hk_JOINALL, c_LOAD := hk_LOAD, n_dict := hN_dict, n_len := hN_len, n_range := hN_range, t_NUMBER_COUNTS := ht_NUMBER_COUNTS, u_WIDTHS := hu_WIDTHS }
    have ea := hmg.symm.trans F_answers.g
    have eb : fa = f_answers := by injection ea with ea; injection ea
    subst eb
    exact ⟨d_answers, F_answers.b0, fun base _ _ => WP.ok_answers (D := D) T⟩
  case S =>
    intro K H xs a hO hwi hask hx
    cases hx with
    | cons h1 h2 =>
      cases h2
      cases h1 with
      | lst hs ha =>
        have e := L2.ints_dw a.1 _ ha
        subst e
        have q := hwi
        have hask' : PyVbdead.answers_asked a.1 = true := hask
        obtain ⟨cs, hp, ed, hl⟩ := WM.answers_due hask'
        have q : ((Codec.inLen 0 16000 a.1 && a.1.all (Codec.inInt (-1000000000000000000) 1000000000000000000)) && true) = true := hwi
        rw [Bool.and_eq_true, Bool.and_eq_true] at q
        refine ⟨_, a.1, cs, rfl, hs, hp, by rw [← ed]; exact hl, (Codec.inNat_iff.mp q.1.1).2, fun H' p hp' => ?_⟩
        rw [← ed] at hp'
        exact .lst (L2.SqL.of hp') (L2.dw_ints _)
#print axioms PySem.Challenge.cw_waitchains_s01_answers_holds
