import PyProof.Rows.All
import Wide.All
import OpenK.AllK
import Wide.FinOn
import PyProof.EqAt
import PyProof.EqKinds
import PyProof.TupleCall
import KE.BitLaws
import KE.OsGo
import Open.SpecLaws
import KE.KNestM
import KE.KLam
import PyProof.Rows.SetFrom
import PyProof.Rows.SortShellAny
import KE.KDictSum
import PySem.Challenge.RW_talkwatch_s01_check
set_option Elab.async false
set_option linter.all false
set_option maxRecDepth 100000
namespace L2
open PySem PySem.Spec PyProof.Rows
/-- a key: an int or a str -/
abbrev Key := Sum Int Str
def keyIs : Key → Value → Bool
  | .inl k, v => Value.isInt k v
  | .inr x, v => Value.isStrOf x v
def keyH (w : World) : Key → Int
  | .inl k => hashInt k
  | .inr x => hashStr w x
theorem keyIs_shape : ∀ {k : Key} {v : Value}, keyIs k v = true → (∃ i t, k = Sum.inl i ∧ v = Value.int i t) ∨ (∃ x t, k = Sum.inr x ∧ v = Value.str x t)
  | .inl i, v, h => by
    obtain ⟨t, e⟩ := Value.isInt_shape (k := i) (v := v) h
    exact .inl ⟨i, t, rfl, e⟩
  | .inr x, v, h => by
    obtain ⟨t, e⟩ := Value.isStrOf_shape (x := x) (v := v) h
    exact .inr ⟨x, t, rfl, e⟩
theorem keyIs_int (i : Int) (t : Tok) : keyIs (.inl i) (.int i t) = true := by simp [keyIs, Value.isInt]
theorem keyIs_str (x : Str) (t : Tok) : keyIs (.inr x) (.str x t) = true := by simp [keyIs, Value.isStrOf]
theorem key_ll (a b : Int) : decide ((Sum.inl a : Key) = Sum.inl b) = (a == b) := by
  by_cases e : a = b
  · subst e; simp
  · have h : ¬ (Sum.inl a : Key) = Sum.inl b := fun q => e (Sum.inl.inj q)
    rw [decide_eq_false h]
    exact (beq_eq_false_iff_ne.mpr e).symm
theorem key_rr (a b : Str) : decide ((Sum.inr a : Key) = Sum.inr b) = decide (a = b) := by
  by_cases e : a = b
  · subst e; simp
  · have h : ¬ (Sum.inr a : Key) = Sum.inr b := fun q => e (Sum.inr.inj q)
    rw [decide_eq_false h, decide_eq_false e]
theorem key_lr (a : Int) (b : Str) : decide ((Sum.inl a : Key) = Sum.inr b) = false := decide_eq_false (fun q => nomatch q)
theorem key_rl (a : Str) (b : Int) : decide ((Sum.inr a : Key) = Sum.inl b) = false := decide_eq_false (fun q => nomatch q)
def mixKind (prog : Program) (w : World) : PySem.KeyKind prog w Key where
  is := keyIs
  hash := keyH w
  inj := fun v a b ha hb => by
    rcases keyIs_shape ha with ⟨i, t, rfl, rfl⟩ | ⟨x, t, rfl, rfl⟩
    · rcases keyIs_shape hb with ⟨j, u, rfl, e⟩ | ⟨y, u, rfl, e⟩
      · injection e with e1 _; rw [e1]
      · exact nomatch e
    · rcases keyIs_shape hb with ⟨j, u, rfl, e⟩ | ⟨y, u, rfl, e⟩
      · exact nomatch e
      · injection e with e1 _; rw [e1]
  byValue := fun k v h => by
    rcases keyIs_shape h with ⟨i, t, rfl, rfl⟩ | ⟨x, t, rfl, rfl⟩ <;> rfl
  pyHash := fun hv h => by
    rcases keyIs_shape hv with ⟨i, t, rfl, rfl⟩ | ⟨x, t, rfl, rfl⟩
    · exact wpAny_pyHash_int h
    · exact wpAny_pyHash_str h
  eqBool := fun hu hv h => by
    rcases keyIs_shape hu with ⟨i, t, rfl, rfl⟩ | ⟨x, t, rfl, rfl⟩
    · rcases keyIs_shape hv with ⟨j, u, rfl, rfl⟩ | ⟨y, u, rfl, rfl⟩
      · rw [key_ll] at h; exact wpAny_eqBool_int h
      · rw [key_lr] at h; exact SeqAt.EqAt.int_str i t y u _ _ _ _ h
    · rcases keyIs_shape hv with ⟨j, u, rfl, rfl⟩ | ⟨y, u, rfl, rfl⟩
      · rw [key_rl] at h; exact SeqAt.EqAt.str_int x t j u _ _ _ _ h
      · rw [key_rr] at h; exact wpAny_eqBool_str h
  «strs» := fun k x t v h => by
    rcases keyIs_shape h with ⟨i, u, rfl, e⟩ | ⟨y, u, rfl, e⟩
    · exact nomatch e
    · injection e with e1 _
      subst e1
      cases v <;> rfl
theorem mixKind_int (prog : Program) (w : World) (i : Int) (t : Tok) : (mixKind prog w).is (.inl i) (.int i t) = true := keyIs_int i t
theorem mixKind_str (prog : Program) (w : World) (x : Str) (t : Tok) : (mixKind prog w).is (.inr x) (.str x t) = true := keyIs_str x t
end L2
namespace L2
open PySem PySem.Spec PyProof.Rows
/-- a value, without the heap -/
inductive V where
  | non | bl (b : Bool) | int (i : Int) | str (x : Str) | byt (b : Array UInt8) | flt (b : UInt64) | ref (a : Addr) | ty (n : String)
  deriving DecidableEq
def RelV : V → Value → Prop
  | .non, u => u = Value.none
  | .bl b, u => u = Value.bool b
  | .int i, u => ∃ t, u = Value.int i t
  | .str x, u => ∃ t, u = Value.str x t
  | .byt b, u => ∃ t, u = Value.bytes b t
  | .flt b, u => ∃ t, u = Value.float b t
  | .ref a, u => u = Value.ref a
  | .ty n, u => u = Value.type n
abbrev Vals : List V → List Value → Prop := Paired RelV
theorem Vals.length {xs : List V} {us : List Value} (r : Vals xs us) : xs.length = us.length := Paired.length r
theorem Vals.get : ∀ {xs : List V} {us : List Value} {i : Nat} {x : V}, Vals xs us → xs[i]? = some x → ∃ u, us[i]? = some u ∧ RelV x u
  | _, _, _, _, .nil, e => by simp at e
  | _, _, 0, _, .cons r _, e => by simp at e; subst e; exact ⟨_, rfl, r⟩
  | _, _, i + 1, x, .cons _ t, e => by
    obtain ⟨u, h1, h2⟩ := Vals.get (i := i) (x := x) t (by simpa using e)
    exact ⟨u, by simpa using h1, h2⟩
theorem Vals.set {x : V} {u : Value} (r : RelV x u) : ∀ {xs : List V} {us : List Value} (i : Nat), Vals xs us → Vals (xs.set i x) (us.set i u)
  | _, _, _, .nil => .nil
  | _, _, 0, .cons _ t => .cons r t
  | _, _, i + 1, .cons q t => .cons q (Vals.set r i t)
theorem Vals.append : ∀ {xs ys : List V} {us ws : List Value}, Vals xs us → Vals ys ws → Vals (xs ++ ys) (us ++ ws)
  | _, _, _, _, .nil, s => s
  | _, _, _, _, .cons r t, s => .cons r (Vals.append t s)
theorem Vals.take : ∀ {xs : List V} {us : List Value} (n : Nat), Vals xs us → Vals (xs.take n) (us.take n)
  | _, _, 0, _ => .nil
  | _, _, _ + 1, .nil => .nil
  | _, _, n + 1, .cons r t => .cons r (Vals.take n t)
theorem Vals.drop : ∀ {xs : List V} {us : List Value} (n : Nat), Vals xs us → Vals (xs.drop n) (us.drop n)
  | _, _, 0, r => r
  | _, _, _ + 1, .nil => .nil
  | _, _, n + 1, .cons _ t => Vals.drop n t
theorem Vals.none_of : ∀ {xs : List V} {us : List Value} {i : Nat}, Vals xs us → xs[i]? = none → us[i]? = none := fun {xs us i} r e => by
  have h1 := r.length
  have h2 : xs.length ≤ i := List.getElem?_eq_none_iff.mp e
  exact List.getElem?_eq_none_iff.mpr (by omega)
def RelO : Option V → Option Value → Prop
  | some v, some u => RelV v u
  | none, none => True
  | _, _ => False
def KV {κ : Type} : List (κ × V) → List (κ × Value) → Prop := Paired fun (p : κ × V) (q : κ × Value) => p.1 = q.1 ∧ RelV p.2 q.2
/-- a key of a dict (00_mix): an int or a text -/
def kV : Key → V
  | .inl i => .int i
  | .inr x => .str x
/-- what stands at a tracked address -/
inductive HO where
  /-- a list -/
  | lst (xs : List V)
  /-- a tuple (never changes) -/
  | tup (xs : List V)
  /-- a dict whose keys are ints and texts; one whose keys are tuples of ints and texts (the empty one is both) -/
  | dK (kvs : List (Key × V)) | dT (kvs : List (List Key × V))
  /-- a set of ints: its members, its size -/
  | set (S : Int → Bool) (n : Nat)
  /-- an instance of the class at C, its dict at dx, its attributes -/
  | ins (C dx : Addr) (fs : List (Str × V))
  /-- the dict of the instance at x -/
  | own (x : Addr)
  /-- the dict of an exception -/
  | xd (fs : List (Str × V))
  /-- a bound method, f of x -/
  | met (f x : Addr)
  /-- a range object lo, lo + 1, .. below hi -/
  | rng (lo hi : Int)
  /-- a thing that is known to the object (the script; a dict while a loop walks it): read, never written while it is so -/
  | frz (o : Obj) (u : HO)
  /-- a code object's table -/
  | tbl (ps : Array Value)
  /-- any other thing, by what is true of its one object (a def of one's own: SetO a S n := HO.ext fun h => ..) -/
  | ext (φ : Heap → Prop)
abbrev Hp := Addr → Option HO
def upd (H : Hp) (a : Addr) (o : HO) : Hp := fun b => if b = a then some o else H b
theorem upd_same {H : Hp} {a : Addr} {o : HO} : upd H a o a = some o := by unfold upd; rw [if_pos rfl]
theorem upd_ne {H : Hp} {a b : Addr} {o : HO} (h : b ≠ a) : upd H a o b = H b := by unfold upd; rw [if_neg h]
/-- two objects of different content stand apart -/
theorem ne_of {H : Hp} {a b : Addr} {o u : HO} (h : H a = some o) (h' : H b = some u) (d : o ≠ u) : a ≠ b := by
  intro e; subst e; rw [h] at h'; exact d (Option.some.inj h')
theorem ne_of_none {H : Hp} {a b : Addr} {o : HO} (h : H a = some o) (h' : H b = none) : a ≠ b := by
  intro e; subst e; rw [h] at h'; cases h'
section
variable (P : Program) (w : World)
def ObjOk (H : Hp) (h : Heap) (a : Addr) : HO → Prop
  | .lst xs => xs.length ≤ sizeLine ∧ ∃ (its : List Value) (n : Nat), Vals xs its ∧ h.get? a = some { cls := .type "list", data := .seq its.toArray n }
  | .tup xs => xs.length ≤ sizeLine ∧ ∃ its : List Value, Vals xs its ∧ IsTup h a its.toArray
  | .dK kvs => kvs.length ≤ sizeLine ∧ (a == sysModules) = false ∧ ∃ vs, KV kvs vs ∧ h.DictOf (mixKind P w) a vs
  | .dT kvs => kvs.length ≤ sizeLine ∧ (a == sysModules) = false ∧ ∃ xs : List (List Key × Addr × Value),
      Paired (fun (p : List Key × V) (q : List Key × Addr × Value) => p.1 = q.1 ∧ H q.2.1 = some (.tup (p.1.map kV)) ∧ RelV p.2 q.2.2) kvs xs ∧
      ∃ o es ep, h.get? a = some o ∧ o.ExactDict ∧ o.data = .dict es ep ∧ es.toList = xs.map (entryOfKey (tupleKind (mixKind P w))) ∧ (xs.map (·.1)).Nodup
  | .set S n => h.SetOf (intKind P w) a S n
  | .ins C dx fs => H dx = some (.own a) ∧ fs.length ≤ 1000 ∧ dx ≠ a ∧ h.get? a = some (PySem.W.instObj C dx) ∧
      ∃ mA, h.Ns1 dx mA ∧ (∀ f, RelO (fs.lookup f) (mA f)) ∧ PySem.Within mA (fs.map (·.1))
  | .own _ => ∃ o, h.get? a = some o
  | .xd fs => ∃ mA, h.Ns1 a mA ∧ ∀ f, RelO (fs.lookup f) (mA f)
  | .rng lo hi => ∃ t u v, h.get? a = some { cls := .type "range", data := .fields #[.int lo t, .int hi u, .int 1 v] }
  | .frz o u => h.get? a = some o ∧ ObjOk H h a u
  | .tbl ps => h.get? a = some { cls := .none, data := .fields ps }
  | .met f x => h.get? a = some (PySem.W.methodObj (.ref f) (.ref x))
  | .ext φ => φ h ∧ (∃ o, h.get? a = some o) ∧ ∀ h1 h2 : Heap, φ h1 → (∀ o, h1.get? a = some o → h2.get? a = some o) → φ h2
/-- the abstract heap is held -/
def HOk (H : Hp) (h : Heap) : Prop := ∀ a o, H a = some o → ObjOk P w H h a o
end
section
variable {P : Program} {w : World} {H H' : Hp} {h h' : Heap} {a : Addr} {o : HO}
theorem ObjOk.lt (x : ObjOk P w H h a o) : a < h.objs.size := by
  cases o with
  | lst xs => obtain ⟨_, _, _, _, e⟩ := x; exact Heap.lt_size e
  | tup xs => obtain ⟨_, _, _, p⟩ := x; exact p.lt
  | dK kvs => obtain ⟨_, _, _, _, o, _, _, e, _⟩ := x; exact Heap.lt_size e
  | dT kvs => obtain ⟨_, _, _, _, o, _, _, e, _⟩ := x; exact Heap.lt_size e
  | set S n => obtain ⟨o, _, _, _, e, _⟩ := x; exact Heap.lt_size e
  | ins C dx fs => obtain ⟨_, _, _, e, _⟩ := x; exact Heap.lt_size e
  | own y => obtain ⟨_, e⟩ := x; exact Heap.lt_size e
  | xd fs => obtain ⟨_, ⟨_, _, _, e, _⟩, _⟩ := x; exact Heap.lt_size e
  | rng lo hi => obtain ⟨_, _, _, e⟩ := x; exact Heap.lt_size e
  | frz ob u => obtain ⟨e, _⟩ := x; exact Heap.lt_size e
  | tbl ps => exact Heap.lt_size (show h.get? a = some _ from x)
  | met f y => exact Heap.lt_size (show h.get? a = some _ from x)
  | ext φ => obtain ⟨_, ⟨_, e⟩, _⟩ := x; exact Heap.lt_size e
theorem Paired.mapP {α β : Type} {F G : α → β → Prop} : ∀ {l₁ : List α} {l₂ : List β}, Paired F l₁ l₂ → (∀ a b, F a b → G a b) → Paired G l₁ l₂
  | _, _, .nil, _ => .nil
  | _, _, .cons r t, f => .cons (f _ _ r) (Paired.mapP t f)
/-- what an object's description leans on: its own object, its own dict, the tuples -/
theorem ObjOk.stay (x : ObjOk P w H h a o) (k : ∀ b u, (b = a ∨ H b = some (.own a)) → h.get? b = some u → h'.get? b = some u)
    (ho : ∀ b, H b = some (.own a) → H' b = some (.own a)) (ht : ∀ b xs, H b = some (.tup xs) → H' b = some (.tup xs)) : ObjOk P w H' h' a o := by
  induction o with
  | lst xs => obtain ⟨z, its, n, r, e⟩ := x; exact ⟨z, its, n, r, k _ _ (.inl rfl) e⟩
  | tup xs => obtain ⟨z, its, r, ob, e, c⟩ := x; exact ⟨z, its, r, ob, k _ _ (.inl rfl) e, c⟩
  | dK kvs => obtain ⟨z, y, vs, r, ob, es, ep, e, c⟩ := x; exact ⟨z, y, vs, r, ob, es, ep, k _ _ (.inl rfl) e, c⟩
  | dT kvs =>
    obtain ⟨z, y, xs, r, ob, es, ep, e, c⟩ := x
    exact ⟨z, y, xs, Paired.mapP r fun p q z => ⟨z.1, ht _ _ z.2.1, z.2.2⟩, ob, es, ep, k _ _ (.inl rfl) e, c⟩
  | set S n => obtain ⟨ob, es, ep, t, e, c⟩ := x; exact ⟨ob, es, ep, t, k _ _ (.inl rfl) e, c⟩
  | ins C dx fs =>
    obtain ⟨d, z, ne, e, mA, ⟨od, es, ep, e2, c⟩, r⟩ := x
    exact ⟨ho _ d, z, ne, k _ _ (.inl rfl) e, mA, ⟨od, es, ep, k _ _ (.inr d) e2, c⟩, r⟩
  | own y => obtain ⟨ob, e⟩ := x; exact ⟨ob, k _ _ (.inl rfl) e⟩
  | xd fs => obtain ⟨mA, ⟨od, es, ep, e, c⟩, r⟩ := x; exact ⟨mA, ⟨od, es, ep, k _ _ (.inl rfl) e, c⟩, r⟩
  | rng lo hi => obtain ⟨t, u, v, e⟩ := x; exact ⟨t, u, v, k _ _ (.inl rfl) e⟩
  | frz ob u ih => obtain ⟨e, q⟩ := x; exact ⟨k _ _ (.inl rfl) e, ih q⟩
  | tbl ps =>
    have e : h.get? a = some { cls := .none, data := .fields ps } := x
    show h'.get? a = some { cls := .none, data := .fields ps }
    exact k a _ (.inl rfl) e
  | met f y =>
    have e : h.get? a = some (PySem.W.methodObj (.ref f) (.ref y)) := x
    show h'.get? a = some (PySem.W.methodObj (.ref f) (.ref y))
    exact k a _ (.inl rfl) e
  | ext φ => obtain ⟨p, ⟨o, e⟩, st⟩ := x; exact ⟨st _ _ p fun o q => k _ _ (.inl rfl) q, ⟨o, k _ _ (.inl rfl) e⟩, st⟩
theorem HOk.lt (x : HOk P w H h) (e : H a = some o) : a < h.objs.size := (x a o e).lt
theorem HOk.fresh (x : HOk P w H h) (e : h.objs.size ≤ a) : H a = none := by
  cases q : H a with
  | none => rfl
  | some u => exact absurd (Nat.lt_of_lt_of_le (x.lt q) e) (Nat.lt_irrefl _)
/-- every object of the heap is kept -/
theorem HOk.kept (x : HOk P w H h) (k : ∀ b u, h.get? b = some u → h'.get? b = some u) : HOk P w H h' := fun a o e =>
  (x a o e).stay (fun b u _ q => k b u q) (fun _ q => q) fun _ _ q => q
/-- a new object is laid and tracked -/
theorem HOk.laid (x : HOk P w H h) (k : ∀ b u, h.get? b = some u → h'.get? b = some u) (hp : h.objs.size ≤ a) (new : ObjOk P w (upd H a o) h' a o) : HOk P w (upd H a o) h' := fun b u e => by
  have hn := x.fresh hp
  by_cases hb : b = a
  · subst hb; rw [upd_same] at e; cases e; exact new
  · rw [upd_ne hb] at e
    exact (x b u e).stay (fun c v _ q => k c v q) (fun c q => by rw [upd_ne (ne_of_none q hn)]; exact q) fun c xs q => by rw [upd_ne (ne_of_none q hn)]; exact q
end
/-- what may be read as u: it is u, or a known u -/
def Rd (H : Hp) (a : Addr) (u : HO) : Prop := H a = some u ∨ ∃ o, H a = some (.frz o u)
theorem Rd.of {H : Hp} {a : Addr} {u : HO} (h : H a = some u) : Rd H a u := .inl h
theorem Rd.ok {P : Program} {w : World} {H : Hp} {h : Heap} {a : Addr} {u : HO} (r : Rd H a u) (x : HOk P w H h) : ObjOk P w H h a u := by
  rcases r with r | ⟨o, r⟩
  · exact x a u r
  · obtain ⟨_, q⟩ := x a _ r
    exact q
/-- what may be written -/
def Mut : Option HO → Prop
  | some (.lst _) => True
  | some (.dK _) => True
  | some (.dT _) => True
  | some (.set _ _) => True
  | some (.ins _ _ _) => True
  | some (.ext _) => True
  | _ => False
section
variable {P : Program} {w : World} {H : Hp} {h h' : Heap} {x e : Addr} {o' : HO}
/-- the object at e is changed: x itself, or the dict of the instance x -/
theorem HOk.write (ok : HOk P w H h) (mu : Mut (H x)) (he : e = x ∨ H e = some (.own x)) (k : ∀ b u, b ≠ e → h.get? b = some u → h'.get? b = some u) (heo : ∃ u, h'.get? e = some u)
    (new : ObjOk P w (upd H x o') h' x o') : HOk P w (upd H x o') h' := fun b u q => by
  have nown : ∀ c y, H c = some (.own y) → c ≠ x := fun c y r z => by subst z; rw [r] at mu; exact mu
  have ntup : ∀ c xs, H c = some (.tup xs) → c ≠ x := fun c xs r z => by subst z; rw [r] at mu; exact mu
  by_cases hb : b = x
  · subst hb; rw [upd_same] at q; cases q; exact new
  · rw [upd_ne hb] at q
    by_cases hbe : b = e
    · have q' : H b = some (.own x) := by
        rcases he with z | z
        · exact absurd (hbe.trans z) hb
        · rw [hbe]; exact z
      rw [q] at q'; cases q'
      obtain ⟨v, hv⟩ := heo
      exact ⟨v, by rw [hbe]; exact hv⟩
    · refine (ok b u q).stay (fun c v hc r => k c v ?_ r) (fun c r => by rw [upd_ne (nown c b r)]; exact r) fun c xs r => by rw [upd_ne (ntup c xs r)]; exact r
      rcases hc with rfl | hc
      · exact hbe
      · rintro rfl
        rcases he with z | z
        · exact nown c b hc z
        · rw [hc] at z; cases z; exact hb rfl
end
structure Un (fs ex : List Addr) (H H' : Hp) (h h' : Heap) : Prop where
  keep : ∀ b o, h.get? b = some o → H b = none → b ∉ fs → b ∉ ex → h'.get? b = some o
  slot : ∀ b o, h.get? b = some o → H b = none → b ∈ fs → b ∉ ex → ∃ sl, h'.get? b = some { o with slots := sl }
  free : ∀ b o, h.get? b = some o → H b = none → b ∉ ex → H' b = none
  there : ∀ b o, h.get? b = some o → b ∉ ex → ∃ o', h'.get? b = some o'
  tups : ∀ b xs, H b = some (.tup xs) → H' b = some (.tup xs)
  frzs : ∀ b o u, H b = some (.frz o u) → H' b = some (.frz o u)
  tbls : ∀ b ps, H b = some (.tbl ps) → ∃ more, H' b = some (.tbl (ps ++ more))
section
variable {fs fs' ex ex' : List Addr} {H H1 H2 : Hp} {h h1 h2 h' : Heap} {a x e : Addr} {o : HO}
theorem Un.any (u : Un fs ex H H1 h h1) {b : Addr} {ob : Obj} (q : h.get? b = some ob) (n : H b = none) (hx : b ∉ ex) : ∃ sl, h1.get? b = some { ob with slots := sl } := by
  by_cases hb : b ∈ fs
  · exact u.slot b ob q n hb hx
  · exact ⟨ob.slots, u.keep b ob q n hb hx⟩
theorem Un.trans (a : Un fs ex H H1 h h1) (b : Un fs ex H1 H2 h1 h2) : Un fs ex H H2 h h2 where
  keep := fun c ob q n hc hx => b.keep c ob (a.keep c ob q n hc hx) (a.free c ob q n hx) hc hx
  slot := fun c ob q n hc hx => by
    obtain ⟨sl, e1⟩ := a.slot c ob q n hc hx
    obtain ⟨sl', e2⟩ := b.slot c _ e1 (a.free c ob q n hx) hc hx
    exact ⟨sl', e2⟩
  free := fun c ob q n hx => by
    obtain ⟨o', e1⟩ := a.there c ob q hx
    exact b.free c o' e1 (a.free c ob q n hx) hx
  there := fun c ob q hx => by
    obtain ⟨o', e1⟩ := a.there c ob q hx
    exact b.there c o' e1 hx
  tups := fun c xs q => b.tups c xs (a.tups c xs q)
  frzs := fun c ob xs q => b.frzs c ob xs (a.frzs c ob xs q)
  tbls := fun c ps q => by
    obtain ⟨m1, e1⟩ := a.tbls c ps q
    obtain ⟨m2, e2⟩ := b.tbls c _ e1
    exact ⟨m1 ++ m2, by rw [e2, Array.append_assoc]⟩
theorem Un.kept (k : ∀ b u, h.get? b = some u → h'.get? b = some u) : Un fs ex H H h h' :=
  ⟨fun b ob q _ _ _ => k b ob q, fun b ob q _ _ _ => ⟨ob.slots, k b ob q⟩, fun _ _ _ n _ => n, fun b ob q _ => ⟨ob, k b ob q⟩, fun _ _ q => q, fun _ _ _ q => q, fun _ ps q => ⟨#[], by rw [q]; simp⟩⟩
theorem Un.refl : Un fs ex H H h h := Un.kept fun _ _ q => q
theorem Un.laid (k : ∀ b u, h.get? b = some u → h'.get? b = some u) (hp : h.objs.size ≤ a) (hn : H a = none) : Un fs ex H (upd H a o) h h' where
  keep := fun b u q _ _ _ => k b u q
  slot := fun b u q _ _ _ => ⟨u.slots, k b u q⟩
  free := fun b u q n _ => by rw [upd_ne (Nat.ne_of_lt (Nat.lt_of_lt_of_le (Heap.lt_size q) hp))]; exact n
  there := fun b u q _ => ⟨u, k b u q⟩
  tups := fun b xs q => by rw [upd_ne (ne_of_none q hn)]; exact q
  frzs := fun b u xs q => by rw [upd_ne (ne_of_none q hn)]; exact q
  tbls := fun b ps q => ⟨#[], by rw [upd_ne (ne_of_none q hn), q]; simp⟩
theorem Un.write (mu : Mut (H x)) (he : e = x ∨ H e = some (.own x)) (k : ∀ b u, b ≠ e → h.get? b = some u → h'.get? b = some u) (heo : ∃ u, h'.get? e = some u) : Un fs ex H (upd H x o) h h' := by
  have hx : ∀ b, H b = none → b ≠ x := fun b n z => by subst z; rw [n] at mu; exact mu
  have hb : ∀ b, H b = none → b ≠ e := fun b n z => by
    subst z
    rcases he with r | r
    · exact hx b n r
    · rw [n] at r; cases r
  have hm : ∀ b u, H b = some u → ¬ Mut (some u) → b ≠ x := fun b u q nm z => by subst z; rw [q] at mu; exact nm mu
  refine ⟨fun b u q n _ _ => k b u (hb b n) q, fun b u q n _ _ => ⟨u.slots, k b u (hb b n) q⟩, fun b u q n _ => by rw [upd_ne (hx b n)]; exact n, fun b u q _ => ?_,
    fun b xs q => by rw [upd_ne (hm b _ q fun z => z)]; exact q, fun b u xs q => by rw [upd_ne (hm b _ q fun z => z)]; exact q, fun b ps q => ⟨#[], by rw [upd_ne (hm b _ q fun z => z), q]; simp⟩⟩
  by_cases hbe : b = e
  · subst hbe; exact heo
  · exact ⟨u, k b u hbe q⟩
theorem Un.mono (u : Un fs ex H H1 h h1) (hs : ∀ b ∈ fs, b ∈ fs') (hx : ∀ b ∈ ex, b ∈ ex') : Un fs' ex' H H1 h h1 :=
  ⟨fun b ob q n hb he => u.keep b ob q n (fun z => hb (hs b z)) fun z => he (hx b z), fun _ _ q n _ he => u.any q n fun z => he (hx _ z), fun b ob q n he => u.free b ob q n fun z => he (hx b z), fun b ob q he => u.there b ob q fun z => he (hx b z), u.tups, u.frzs, u.tbls⟩
end
def trk (h : Heap) (H : Hp) : List Addr := (List.range h.objs.size).filter fun a => (H a).isSome
def hidT (h : Heap) (H : Hp) : Heap := PySem.W.hideAll h (trk h H)
theorem hidT_size (h : Heap) (H : Hp) : (hidT h H).objs.size = h.objs.size := PySem.W.hideAll_size _ _
theorem hidT_get {h : Heap} {H : Hp} {b : Addr} {o : Obj} (e : h.get? b = some o) (n : H b = none) : (hidT h H).get? b = some o :=
  PySem.W.hideAll_get _ e fun hm => by
    have q : (H b).isSome = true := (List.mem_filter.mp hm).2
    rw [n] at q; simp at q
theorem of_hidT {h : Heap} {H : Hp} {b : Addr} {o : Obj} (e : (hidT h H).get? b = some o) : h.get? b = some o ∧ H b = none := by
  have e' : h.get? b = some o := PySem.W.of_hideAll (trk h H) e
  refine ⟨e', ?_⟩
  cases q : H b with
  | none => rfl
  | some x =>
    have hm : b ∈ trk h H := List.mem_filter.mpr ⟨List.mem_range.mpr (Heap.lt_size e'), by simp [q]⟩
    have z : (hidT h H).get? b = none := PySem.W.hideAll_none (trk h H) hm
    rw [z] at e; cases e
def allNews (g h : Heap) (L : Addr) : List (Addr × Obj) := (List.range h.objs.size).filterMap fun a => if a = L ∨ (g.get? a).isSome = true then none else (h.get? a).map fun o => (a, o)
def rest (g h : Heap) (L d : Addr) : List (Addr × Obj) := (allNews g h L).filter fun p => decide (p.1 ≠ d)
end L2
namespace L2
open PySem PySem.Spec PyProof.Rows
/-- the module's facts, over the base: the heap at the law's entry without what is tracked there -/
structure Mod (K : PySem.W.Frag) (mg : Str → Option Value) (base : Heap) : Prop where
  kin : K.In base
  glob : base.Ns mainGlobals mg
  blt : ∃ mb, base.Ns builtinsNs mb ∧ ∀ x : Str, x ≠ "__name__" → mb x = bootBuiltins x
  nolimit : base.NoLimit
/-- the context: a def's body (or a comprehension's block) running. base: fixed through the whole law; s₀, H₀: the entry; outer: the frames whose slots others may change (a def's callers); stack: all frames that run;
   ex: iterators that were made ahead of the entry and are walked here (a comprehension's); fn: the names whose cells were made at the entry (a def: all; a comprehension's block: its own); calm: not within an except suite; pn: pins that every state bears; xe: what is wanted of an exception that leaves the code -/
structure Cx where
  prog : Program
  w : World
  K : PySem.W.Frag
  mg : Str → Option Value
  base : Heap
  A : Around
  N : List Str
  s_0 : Shared
  H_0 : Hp
  env : Env
  outer : List Env
  stack : List Env
  ex : List Addr
  fn : Str → Bool
  calm : Bool
  pn : List (Addr × Obj)
  xe : Value → Shared → Prop
/-- the callers' frames -/
def frs (l : List Env) : List Addr := l.filterMap (·.frame)
abbrev Cx.fs (X : Cx) : List Addr := frs X.outer
def Vis (sc : Scope) (x : Str) : Prop := sc.names.lookup x = some .local ∨ sc.names.lookup x = some .cell ∨ sc.names.lookup x = some .free
def Loc (sc : Scope) (x : Str) : Prop := sc.names.lookup x = some .local ∨ sc.names.lookup x = some .cell
def Look (env : Env) (h : Heap) (m : Str → Option Value) (x : Str) (u : Value) : Prop :=
  (env.kindOf x = some .local ∧ m x = some u) ∨ ((env.kindOf x = some .cell ∨ env.kindOf x = some .free) ∧ ∃ c, env.cells.lookup x = some c ∧ h.IsCell c (some u))
structure Cx.Ok (X : Cx) : Prop where
  mod : Mod X.K X.mg X.base
  kind : X.env.scope.kind = .function
  glob : X.env.globals = mainGlobals
  blt : X.env.builtins = builtinsNs
  above : X.s_0.heap.objs.size ≤ X.env.locals
  inj : ∀ x y c, X.env.cells.lookup x = some c → X.env.cells.lookup y = some c → x = y
  has : ∀ x, (X.env.kindOf x = some .cell ∨ X.env.kindOf x = some .free) → ∃ c, X.env.cells.lookup x = some c
  cab : ∀ x c, X.fn x = true → X.env.cells.lookup x = some c → X.s_0.heap.objs.size ≤ c
  hd : X.calm = true → X.A.handled = none
  frames : X.A.frames = some X.stack
  stk : X.stack = X.outer ∨ (X.stack = X.env :: X.outer ∧ X.env.frame = some X.env.locals)
  exf : ∀ b ∈ X.ex, b ≠ X.env.locals ∧ ∀ x c, X.env.cells.lookup x = some c → c ≠ b
  bs : ∀ b o, X.base.get? b = some o → X.s_0.heap.get? b = some o ∧ X.H_0 b = none
  bsz : X.base.objs.size ≤ X.s_0.heap.objs.size
  noex : ∀ b o, X.base.get? b = some o → b ∉ X.ex
  exfs : ∀ b ∈ X.ex, b ∉ X.fs
  funs : X.s_0.heap.FunFrames X.base X.outer
  frf : ∀ b ∈ X.fs, X.H_0 b = none
structure Inv (X : Cx) (pins : List (Addr × Obj)) (σ : List (Option V)) (H : Hp) (s : Shared) : Prop where
  ok : X.Ok
  os : s.os = X.s_0.os
  bare : AllBare s.gens
  base : Un X.fs X.ex X.H_0 H X.s_0.heap s.heap
  loc : ∃ m, s.heap.Ns X.env.locals m ∧ ∀ (i : Nat) (x : Str) (v : V), X.N[i]? = some x → σ[i]? = some (some v) → Vis X.env.scope x → ∃ u, RelV v u ∧ Look X.env s.heap m x u
  cell : ∀ x c, X.env.cells.lookup x = some c → ∃ v, s.heap.IsCell c v
  free : H X.env.locals = none
  freeC : ∀ x c, X.env.cells.lookup x = some c → H c = none
  pin : ∀ p ∈ X.pn ++ pins, s.heap.get? p.1 = some p.2 ∧ H p.1 = none ∧ p.1 ≠ X.env.locals ∧ p.1 ∉ X.fs ∧ ∀ v, p.2.data ≠ .cell v
  hok : HOk X.prog X.w H s.heap
  len : σ.length = X.N.length
section
variable {X : Cx} {pins : List (Addr × Obj)} {σ : List (Option V)} {H H' : Hp} {s : Shared} {h' : Heap}
theorem Cx.Ok.nofr (ok : X.Ok) {b : Addr} {o : Obj} (e : X.base.get? b = some o) : b ∉ X.fs := fun hb => by
  have := (ok.funs.mem hb).1
  rw [e] at this; cases this
theorem Inv.bs (I : Inv X pins σ H s) : ∀ b o, X.base.get? b = some o → s.heap.get? b = some o ∧ H b = none := fun b o e =>
  ⟨I.base.keep b o (I.ok.bs b o e).1 (I.ok.bs b o e).2 (I.ok.nofr e) (I.ok.noex b o e), I.base.free b o (I.ok.bs b o e).1 (I.ok.bs b o e).2 (I.ok.noex b o e)⟩
theorem Inv.bk (I : Inv X pins σ H s) : ∀ b o, X.base.get? b = some o → s.heap.get? b = some o := fun b o e => (I.bs b o e).1
theorem Inv.mod (I : Inv X pins σ H s) : Mod X.K X.mg X.base := I.ok.mod
theorem Inv.kIn (I : Inv X pins σ H s) : X.K.In s.heap := I.ok.mod.kin.keeps I.bk
theorem Inv.nolimit (I : Inv X pins σ H s) : s.heap.NoLimit := I.ok.mod.nolimit.keeps I.bk
/-- the frame over the base: for OpenK's rules (K.In X.base is I.mod.kin) -/
theorem Inv.fr (I : Inv X pins σ H s) : ∃ m, Fr X.base X.env.locals s.heap m :=
  let ⟨m, hn, _⟩ := I.loc
  ⟨m, hn, I.bk, Nat.le_trans I.ok.bsz I.ok.above⟩
theorem Inv.lt (I : Inv X pins σ H s) : X.env.locals < s.heap.objs.size := let ⟨_, hn, _⟩ := I.loc; hn.lt
theorem Inv.sz (I : Inv X pins σ H s) : X.s_0.heap.objs.size ≤ s.heap.objs.size := Nat.le_trans I.ok.above (Nat.le_of_lt I.lt)
theorem Inv.nofs (I : Inv X pins σ H s) {a : Addr} (h : s.heap.objs.size ≤ a) : a ∉ X.fs := fun hb => by
  obtain ⟨_, o, ho, _⟩ := I.ok.funs.mem hb
  exact absurd (Nat.lt_of_lt_of_le (Heap.lt_size ho) (Nat.le_trans I.sz h)) (Nat.lt_irrefl _)
theorem Inv.cne (I : Inv X pins σ H s) : ∀ x c, X.env.cells.lookup x = some c → c ≠ X.env.locals := fun x c e z => by
  obtain ⟨v, o, ho, hd⟩ := I.cell x c e
  obtain ⟨m, ⟨o', es, ep, ho', hd', _⟩, _⟩ := I.loc
  rw [z, ho'] at ho; cases ho; rw [hd'] at hd; cases hd
theorem Inv.funs (I : Inv X pins σ H s) : s.heap.FunFrames X.base X.outer := by
  have all : ∀ (l : List Env), (∀ b ∈ frs l, b ∈ X.fs) → X.s_0.heap.FunFrames X.base l → s.heap.FunFrames X.base l := by
    intro l
    induction l with
    | nil => intro _ _; trivial
    | cons env r ih =>
      intro hs hl
      obtain ⟨hk, ⟨L, o, hf, hn, ho, hd⟩, hr⟩ := hl
      have hL : L ∈ X.fs := hs L (by unfold frs; rw [List.filterMap_cons, hf]; exact List.mem_cons_self)
      obtain ⟨sl, e⟩ := I.base.slot L o ho (I.ok.frf L hL) hL fun z => I.ok.exfs L z hL
      exact ⟨hk, ⟨L, _, hf, hn, e, hd⟩, ih (fun b hb => hs b (by unfold frs; rw [List.filterMap_cons, hf]; exact List.mem_cons_of_mem _ hb)) hr⟩
  exact all X.outer (fun _ hb => hb) I.ok.funs
/-- the frames that run, for a call -/
theorem Inv.stack (I : Inv X pins σ H s) : s.heap.FunFrames X.base X.stack := by
  rcases I.ok.stk with e | ⟨e, hf⟩
  · rw [e]; exact I.funs
  · rw [e]
    obtain ⟨m, hn, _⟩ := I.loc
    refine .cons (by rw [I.ok.kind]; decide) hf hn ?_ I.funs
    exact Heap.get?_none_of_le (Nat.le_trans I.ok.bsz I.ok.above)
theorem Inv.stkSub (I : Inv X pins σ H s) : ∀ b ∈ frs X.stack, b ∈ X.env.locals :: X.fs := fun b hb => by
  rcases I.ok.stk with e | ⟨e, hf⟩
  · rw [e] at hb; exact List.mem_cons_of_mem _ hb
  · rw [e] at hb
    unfold frs at hb
    rw [List.filterMap_cons, hf] at hb
    exact hb
theorem Inv.stkFree (I : Inv X pins σ H s) : ∀ b ∈ frs X.stack, H b = none := fun b hb => by
  rcases List.mem_cons.mp (I.stkSub b hb) with e | hb
  · rw [e]; exact I.free
  · obtain ⟨_, o, ho, _⟩ := I.ok.funs.mem hb
    exact I.base.free b o ho (I.ok.frf b hb) fun z => I.ok.exfs b z hb
/-- THE STEP: the untracked objects but the frame and the records at ch are kept (the callers' frames up to slots), the frame's map is kept, the new abstract heap is held -/
theorem Inv.step {g' : Array GenState} {t' : Nat} {d' : Drawn} {ch : List Addr} (I : Inv X pins σ H s)
    (hch : ∀ b ∈ ch, (b ∈ X.ex ∨ X.s_0.heap.objs.size ≤ b) ∧ b ≠ X.env.locals ∧ (∀ x c, X.env.cells.lookup x = some c → c ≠ b) ∧ ∀ p ∈ X.pn ++ pins, p.1 ≠ b)
    (keep : ∀ b o, b ≠ X.env.locals → b ∉ X.fs → b ∉ ch → s.heap.get? b = some o → H b = none → h'.get? b = some o)
    (slot : ∀ b o, b ≠ X.env.locals → b ∈ X.fs → b ∉ ch → s.heap.get? b = some o → H b = none → ∃ sl, h'.get? b = some { o with slots := sl }) (free : ∀ b o, b ∉ ch → s.heap.get? b = some o → H b = none → H' b = none)
    (there : ∀ b o, b ∉ ch → s.heap.get? b = some o → ∃ o', h'.get? b = some o')
    (tups : ∀ b xs, H b = some (.tup xs) → H' b = some (.tup xs)) (frzs : ∀ b o u, H b = some (.frz o u) → H' b = some (.frz o u)) (tbls : ∀ b ps, H b = some (.tbl ps) → ∃ more, H' b = some (.tbl (ps ++ more)))
    (ns : ∀ m, s.heap.Ns X.env.locals m → h'.Ns X.env.locals m) (hok : HOk X.prog X.w H' h') (hg : AllBare g') :
    Inv X pins σ H' { s with heap := h', gens := g', drawn := d', toks := t' } := by
  have neL : ∀ b o, X.s_0.heap.get? b = some o → b ≠ X.env.locals := fun b o e => Nat.ne_of_lt (Nat.lt_of_lt_of_le (Heap.lt_size e) I.ok.above)
  have neC : ∀ b o, X.s_0.heap.get? b = some o → b ∉ X.ex → b ∉ ch := fun b o e hx hb => by
    rcases (hch b hb).1 with z | z
    · exact hx z
    · exact absurd (Nat.lt_of_lt_of_le (Heap.lt_size e) z) (Nat.lt_irrefl _)
  have cellK : ∀ x c, X.env.cells.lookup x = some c → ∀ v, s.heap.IsCell c v → h'.IsCell c v := fun x c e v ⟨o, ho, hd⟩ => by
    have nch : c ∉ ch := fun z => (hch c z).2.2.1 x c e rfl
    by_cases hc : c ∈ X.fs
    · obtain ⟨sl, q⟩ := slot c o (I.cne x c e) hc nch ho (I.freeC x c e)
      exact ⟨_, q, hd⟩
    · exact ⟨o, keep c o (I.cne x c e) hc nch ho (I.freeC x c e), hd⟩
  refine ⟨I.ok, I.os, hg, ⟨fun b o e n hb hx => ?_, fun b o e n hb hx => ?_, fun b o e n hx => ?_, fun b o e hx => ?_, fun b xs e => tups b xs (I.base.tups b xs e), fun b o xs e => frzs b o xs (I.base.frzs b o xs e), fun b ps e => ?_⟩, ?_, fun x c e => ?_, ?_, fun x c e => ?_, fun p hp => ?_, hok, I.len⟩
  · exact keep b o (neL b o e) hb (neC b o e hx) (I.base.keep b o e n hb hx) (I.base.free b o e n hx)
  · obtain ⟨sl, e1⟩ := I.base.slot b o e n hb hx
    obtain ⟨sl', e2⟩ := slot b _ (neL b o e) hb (neC b o e hx) e1 (I.base.free b o e n hx)
    exact ⟨sl', e2⟩
  · obtain ⟨o', e1⟩ := I.base.there b o e hx
    exact free b o' (neC b o e hx) e1 (I.base.free b o e n hx)
  · obtain ⟨o', e1⟩ := I.base.there b o e hx
    exact there b o' (neC b o e hx) e1
  · obtain ⟨m1, e1⟩ := I.base.tbls b ps e
    obtain ⟨m2, e2⟩ := tbls b _ e1
    exact ⟨m1 ++ m2, by rw [e2, Array.append_assoc]⟩
  · obtain ⟨m, hn, hl⟩ := I.loc
    refine ⟨m, ns m hn, fun i x v e1 e2 e3 => ?_⟩
    obtain ⟨u, r, l⟩ := hl i x v e1 e2 e3
    refine ⟨u, r, ?_⟩
    rcases l with l | ⟨k, c, e, z⟩
    · exact .inl l
    · exact .inr ⟨k, c, e, cellK x c e _ z⟩
  · obtain ⟨v, z⟩ := I.cell x c e
    exact ⟨v, cellK x c e v z⟩
  · obtain ⟨m, ⟨o, _, _, ho, _⟩, _⟩ := I.loc
    exact free _ o (fun z => (hch _ z).2.1 rfl) ho I.free
  · obtain ⟨v, o, ho, hd⟩ := I.cell x c e
    exact free c o (fun z => (hch c z).2.2.1 x c e rfl) ho (I.freeC x c e)
  · obtain ⟨e, n, ne, nf, d⟩ := I.pin p hp
    have nch : p.1 ∉ ch := fun z => (hch p.1 z).2.2.2 p hp rfl
    exact ⟨keep p.1 p.2 ne nf nch e n, free p.1 p.2 nch e n, ne, nf, d⟩
/-- .. where the frame's own object is kept too -/
theorem Inv.un {t' : Nat} (I : Inv X pins σ H s) (u : Un X.fs [] H H' s.heap h') (hok : HOk X.prog X.w H' h') : Inv X pins σ H' { s with heap := h', toks := t' } := by
  obtain ⟨m, ⟨o, es, ep, ho, r⟩, _⟩ := id I.loc
  obtain ⟨sl, hL⟩ := u.any ho I.free (by simp)
  exact I.step (g' := s.gens) (d' := s.drawn) (ch := []) (fun _ z => nomatch z) (fun b o _ hb _ e n => u.keep b o e n hb (by simp)) (fun b o _ hb _ e n => u.slot b o e n hb (by simp)) (fun b o _ e n => u.free b o e n (by simp)) (fun b o _ e => u.there b o e (by simp)) u.tups u.frzs u.tbls (fun m' hm => by
    obtain ⟨o', es', ep', ho', r'⟩ := hm
    rw [ho] at ho'; cases ho'
    exact ⟨_, es', ep', hL, r'⟩) hok I.bare
/-- behind a call (or a comprehension's block): the slots of this frame may have changed too, the records at ch may have turned -/
theorem Inv.call {g' : Array GenState} {t' : Nat} {d' : Drawn} {ch : List Addr} (I : Inv X pins σ H s) (u : Un (frs X.stack) ch H H' s.heap h') (hok : HOk X.prog X.w H' h') (hg : AllBare g')
    (hch : ∀ b ∈ ch, (b ∈ X.ex ∨ X.s_0.heap.objs.size ≤ b) ∧ b ≠ X.env.locals ∧ (∀ x c, X.env.cells.lookup x = some c → c ≠ b) ∧ ∀ p ∈ X.pn ++ pins, p.1 ≠ b) :
    Inv X pins σ H' { s with heap := h', gens := g', drawn := d', toks := t' } := by
  obtain ⟨m, ⟨o, es, ep, ho, r⟩, _⟩ := id I.loc
  obtain ⟨sl, hL⟩ := u.any ho I.free fun z => (hch _ z).2.1 rfl
  exact I.step (ch := ch) hch (fun b o hL hb hc e n => u.keep b o e n (fun z => (List.mem_cons.mp (I.stkSub b z)).elim hL hb) hc) (fun b o _ _ hc e n => u.any e n hc) (fun b o hc e n => u.free b o e n hc) (fun b o hc e => u.there b o e hc) u.tups u.frzs u.tbls (fun m' hm => by
    obtain ⟨o', es', ep', ho', r'⟩ := hm
    rw [ho] at ho'; cases ho'
    exact ⟨_, es', ep', hL, r'⟩) hok hg
/-- an untracked record of ours (an iterator) has turned -/
theorem Inv.turned {t' : Nat} {it : Addr} (I : Inv X pins σ H s) (k : ∀ b o, b ≠ it → s.heap.get? b = some o → h'.get? b = some o) (hn : H it = none) (hL : it ≠ X.env.locals)
    (h1 : it ∈ X.ex ∨ X.s_0.heap.objs.size ≤ it) (h2 : ∀ x c, X.env.cells.lookup x = some c → c ≠ it) (h3 : ∀ p ∈ X.pn ++ pins, p.1 ≠ it) : Inv X pins σ H { s with heap := h', toks := t' } := by
  have nit : ∀ b u, H b = some u → b ≠ it := fun b u e z => by rw [z, hn] at e; cases e
  refine I.step (g' := s.gens) (d' := s.drawn) (ch := [it]) (fun b hb => ?_) (fun b o _ _ hc e _ => k b o (fun z => hc (by simp [z])) e) (fun b o _ _ hc e _ => ⟨o.slots, k b o (fun z => hc (by simp [z])) e⟩) (fun _ _ _ _ n => n)
    (fun b o hc e => ⟨o, k b o (fun z => hc (by simp [z])) e⟩) (fun _ _ e => e) (fun _ _ _ e => e) (fun b ps e => ⟨#[], by rw [e]; simp⟩) (fun m hm => ?_) (fun b u e => ?_) I.bare
  · have e : b = it := by simpa using hb
    subst e
    exact ⟨h1, hL, h2, h3⟩
  · obtain ⟨o, es, ep, ho, r⟩ := hm
    exact ⟨o, es, ep, k _ o (Ne.symm hL) ho, r⟩
  · refine (I.hok b u e).stay (fun c v hc q => k c v ?_ q) (fun _ q => q) fun _ _ q => q
    rcases hc with z | z
    · rw [z]; exact nit b u e
    · exact nit c _ z
theorem Inv.tok (I : Inv X pins σ H s) (t : Nat) : Inv X pins σ H { s with toks := t } := I.un (h' := s.heap) (t' := t) Un.refl I.hok
/-- all objects kept -/
theorem Inv.kept {t' : Nat} (I : Inv X pins σ H s) (k : ∀ b u, s.heap.get? b = some u → h'.get? b = some u) : Inv X pins σ H { s with heap := h', toks := t' } := I.un (Un.kept k) (I.hok.kept k)
/-- a new object laid and tracked -/
theorem Inv.laid {a : Addr} {o : HO} {t' : Nat} (I : Inv X pins σ H s) (k : ∀ b u, s.heap.get? b = some u → h'.get? b = some u) (hp : s.heap.objs.size ≤ a) (new : ObjOk X.prog X.w (upd H a o) h' a o) :
    Inv X pins σ (upd H a o) { s with heap := h', toks := t' } := I.un (Un.laid k hp (I.hok.fresh hp)) (I.hok.laid k hp new)
/-- an object written -/
theorem Inv.write {x e : Addr} {o : HO} {t' : Nat} (I : Inv X pins σ H s) (mu : Mut (H x)) (he : e = x ∨ H e = some (.own x)) (k : ∀ b u, b ≠ e → s.heap.get? b = some u → h'.get? b = some u) (heo : ∃ u, h'.get? e = some u)
    (new : ObjOk X.prog X.w (upd H x o) h' x o) : Inv X pins σ (upd H x o) { s with heap := h', toks := t' } := I.un (Un.write mu he k heo) (I.hok.write mu he k heo new)
/-- forgetting slots, pins -/
theorem Inv.weak {σ' : List (Option V)} (I : Inv X pins σ H s) (hl : σ'.length = σ.length) (w : ∀ (i : Nat) v, σ'[i]? = some (some v) → σ[i]? = some (some v)) : Inv X pins σ' H s :=
  ⟨I.ok, I.os, I.bare, I.base, let ⟨m, hn, hl'⟩ := I.loc; ⟨m, hn, fun i x v e1 e2 e3 => hl' i x v e1 (w i v e2) e3⟩, I.cell, I.free, I.freeC, I.pin, I.hok, hl.trans I.len⟩
theorem Inv.pins_of {pins' : List (Addr × Obj)} (I : Inv X pins σ H s) (h : ∀ p ∈ pins', s.heap.get? p.1 = some p.2 ∧ H p.1 = none ∧ p.1 ≠ X.env.locals ∧ p.1 ∉ X.fs ∧ ∀ v, p.2.data ≠ .cell v) : Inv X pins' σ H s :=
  ⟨I.ok, I.os, I.bare, I.base, I.loc, I.cell, I.free, I.freeC, fun p hp => (List.mem_append.mp hp).elim (fun z => I.pin p (List.mem_append_left _ z)) (h p), I.hok, I.len⟩
theorem nodup_ix {N : List Str} (hN : N.Nodup) {i j : Nat} {x : Str} (a : N[i]? = some x) (b : N[j]? = some x) : i = j := by
  obtain ⟨h1, e1⟩ := List.getElem?_eq_some_iff.mp a
  obtain ⟨h2, e2⟩ := List.getElem?_eq_some_iff.mp b
  exact (List.getElem_inj hN).mp (e1.trans e2.symm)
/-- a name is stored; what changed -/
theorem store_ok2 {M : Model} {A : Around} {E : Value → Shared → Prop} {i : Nat} {x : Str} {v : V} {u : Value} {Q : Unit → Shared → Prop} (I : Inv X pins σ H s) (hN : X.N.Nodup) (hi : X.N[i]? = some x) (hx : Loc X.env.scope x) (r : RelV v u)
    (h : ∀ s', Inv X pins (σ.set i (some v)) H s' → (∃ a, Heap.SameBut a s.heap s'.heap ∧ (a = X.env.locals ∨ X.env.cells.lookup x = some a)) → Q () s') (hf : X.fn x = true ∨ X.env.scope.names.lookup x = some .local := by first | exact .inl rfl | exact .inr rfl | assumption) : wpAny M A (storeName X.env x u) Q E s := by
  obtain ⟨m, hn, hl⟩ := id I.loc
  have hcls : (X.env.scope.kind == .class || (X.env.scope.kind == .module && X.env.locals != X.env.globals)) = false := by rw [I.ok.kind]; rfl
  have hiσ : i < σ.length := by rw [I.len]; exact (List.getElem?_eq_some_iff.mp hi).1
  have cne := I.cne
  have tracked : ∀ {a : Addr} {h' : Heap}, (∃ o, s.heap.get? a = some o ∧ H a = none) → Heap.SameBut a s.heap h' → HOk X.prog X.w H h' := fun {a h'} ha hs b ob e => by
    obtain ⟨_, _, hfree⟩ := ha
    refine (I.hok b ob e).stay (fun c w' hc q => (hs.2 c ?_).trans q) (fun _ q => q) fun _ _ q => q
    rintro rfl
    rcases hc with rfl | hc
    · rw [hfree] at e; cases e
    · rw [hfree] at hc; cases hc
  rcases hx with hk | hk
  · refine wpAny_storeName_local hk hn (fun h' hn' hs => ?_) hcls
    obtain ⟨oL, _, _, hoL, _⟩ := id hn
    refine h _ ⟨I.ok, I.os, I.bare, ⟨fun b o e n hb hx => ?_, fun b o e n hb hx => ?_, I.base.free, fun b o e hx => ?_, I.base.tups, I.base.frzs, I.base.tbls⟩, ⟨_, hn', fun j y v' e1 e2 e3 => ?_⟩, fun y c e => ?_, I.free, I.freeC, fun p hp => ?_, tracked ⟨oL, hoL, I.free⟩ hs, by simpa using I.len⟩ ⟨_, hs, .inl rfl⟩
    · exact (hs.2 b (Nat.ne_of_lt (Nat.lt_of_lt_of_le (Heap.lt_size e) I.ok.above))).trans (I.base.keep b o e n hb hx)
    · obtain ⟨sl, e1⟩ := I.base.slot b o e n hb hx
      exact ⟨sl, (hs.2 b (Nat.ne_of_lt (Nat.lt_of_lt_of_le (Heap.lt_size e) I.ok.above))).trans e1⟩
    · obtain ⟨o', e1⟩ := I.base.there b o e hx
      exact ⟨o', (hs.2 b (Nat.ne_of_lt (Nat.lt_of_lt_of_le (Heap.lt_size e) I.ok.above))).trans e1⟩
    · by_cases hj : j = i
      · subst hj
        rw [hi] at e1; cases e1
        rw [List.getElem?_set_self hiσ] at e2
        cases e2
        exact ⟨u, r, .inl ⟨hk, by simp⟩⟩
      · rw [List.getElem?_set_ne (Ne.symm hj)] at e2
        obtain ⟨u', r', q⟩ := hl j y v' e1 e2 e3
        refine ⟨u', r', ?_⟩
        rcases q with ⟨k, e⟩ | ⟨k, c, e, z⟩
        · refine .inl ⟨k, ?_⟩
          have : y ≠ x := fun e => hj (nodup_ix hN e1 (e ▸ hi))
          simp [this, e]
        · exact .inr ⟨k, c, e, z.sameBut hs (cne y c e)⟩
    · obtain ⟨w', z⟩ := I.cell y c e
      exact ⟨w', z.sameBut hs (cne y c e)⟩
    · obtain ⟨e, n, ne, nf, d⟩ := I.pin p hp
      exact ⟨(hs.2 p.1 ne).trans e, n, ne, nf, d⟩
  · have hfn : X.fn x = true := by
      rcases hf with z | z
      · exact z
      · rw [z] at hk; cases hk
    obtain ⟨c, hc⟩ := I.ok.has x (.inl hk)
    obtain ⟨w', z⟩ := I.cell x c hc
    refine wpAny_storeName_cell I.ok.kind hk hc z (fun h' hc' hs => ?_)
    obtain ⟨oc, hoc, hocd⟩ := id z
    refine h { s with heap := h' } ⟨I.ok, I.os, I.bare, ⟨fun b o e n hb hx => ?_, fun b o e n hb hx => ?_, I.base.free, fun b o e hx => ?_, I.base.tups, I.base.frzs, I.base.tbls⟩, ⟨m, hn.sameBut hs (Ne.symm (cne x c hc)), fun j y v' e1 e2 e3 => ?_⟩, fun y c' e => ?_, I.free, I.freeC, fun p hp => ?_, tracked ⟨oc, hoc, I.freeC x c hc⟩ hs, by simpa using I.len⟩ ⟨c, hs, .inr hc⟩
    · exact (hs.2 b (Nat.ne_of_lt (Nat.lt_of_lt_of_le (Heap.lt_size e) (I.ok.cab x c hfn hc)))).trans (I.base.keep b o e n hb hx)
    · obtain ⟨sl, e1⟩ := I.base.slot b o e n hb hx
      exact ⟨sl, (hs.2 b (Nat.ne_of_lt (Nat.lt_of_lt_of_le (Heap.lt_size e) (I.ok.cab x c hfn hc)))).trans e1⟩
    · obtain ⟨o', e1⟩ := I.base.there b o e hx
      exact ⟨o', (hs.2 b (Nat.ne_of_lt (Nat.lt_of_lt_of_le (Heap.lt_size e) (I.ok.cab x c hfn hc)))).trans e1⟩
    · by_cases hj : j = i
      · subst hj
        rw [hi] at e1; cases e1
        rw [List.getElem?_set_self hiσ] at e2
        cases e2
        exact ⟨u, r, .inr ⟨.inl hk, c, hc, hc'⟩⟩
      · rw [List.getElem?_set_ne (Ne.symm hj)] at e2
        obtain ⟨u', r', q⟩ := hl j y v' e1 e2 e3
        refine ⟨u', r', ?_⟩
        rcases q with q | ⟨k, c', e, z'⟩
        · exact .inl q
        · refine .inr ⟨k, c', e, z'.sameBut hs ?_⟩
          rintro rfl
          exact hj (nodup_ix hN e1 (I.ok.inj _ _ _ e hc ▸ hi))
    · by_cases hcc : c' = c
      · subst hcc; exact ⟨_, hc'⟩
      · obtain ⟨w2, z2⟩ := I.cell y c' e
        exact ⟨w2, z2.sameBut hs hcc⟩
    · obtain ⟨e, n, ne, nf, d⟩ := I.pin p hp
      refine ⟨(hs.2 p.1 ?_).trans e, n, ne, nf, d⟩
      intro q
      rw [q, hoc] at e
      have q' : oc = p.2 := Option.some.inj e
      exact d w' (by rw [← q']; exact hocd)
theorem store_ok {M : Model} {A : Around} {E : Value → Shared → Prop} {i : Nat} {x : Str} {v : V} {u : Value} {Q : Unit → Shared → Prop} (I : Inv X pins σ H s) (hN : X.N.Nodup) (hi : X.N[i]? = some x) (hx : Loc X.env.scope x) (r : RelV v u)
    (h : ∀ s', Inv X pins (σ.set i (some v)) H s' → Q () s') (hf : X.fn x = true ∨ X.env.scope.names.lookup x = some .local := by first | exact .inl rfl | exact .inr rfl | assumption) : wpAny M A (storeName X.env x u) Q E s :=
  store_ok2 I hN hi hx r (fun s' I' _ => h s' I') hf
/-- behind a call or a block, the state as it is -/
theorem Inv.call' {s' : Shared} {ch : List Addr} (I : Inv X pins σ H s) (ho : s'.os = s.os) (u : Un (frs X.stack) ch H H' s.heap s'.heap) (hok : HOk X.prog X.w H' s'.heap) (hg : AllBare s'.gens)
    (hch : ∀ b ∈ ch, (b ∈ X.ex ∨ X.s_0.heap.objs.size ≤ b) ∧ b ≠ X.env.locals ∧ (∀ x c, X.env.cells.lookup x = some c → c ≠ b) ∧ ∀ p ∈ X.pn ++ pins, p.1 ≠ b) : Inv X pins σ H' s' := by
  obtain ⟨h', g', d', t', o'⟩ := s'
  have e : o' = s.os := ho
  subst e
  exact I.call (g' := g') (t' := t') (d' := d') u hok hg hch
end
/-- an exception: its class, its own dict's address (where it has one), the abstract heap behind it -/
abbrev XK := Value → Option Addr → Hp → Prop
abbrev St := List (Option V)
abbrev VK := V → Hp → Prop
/-- an expression's reading; a test's; an argument list's -/
abbrev TE := St → Hp → VK → Prop
abbrev TT := St → Hp → (Bool → Hp → Prop) → Prop
abbrev TA := St → Hp → (List V → Hp → Prop) → Prop
/-- what is wanted behind a statement -/
structure Ends where
  nx : St → Hp → Prop
  rt : VK
  bk : St → Hp → Prop := fun _ _ => False
  ct : St → Hp → Prop := fun _ _ => False
abbrev TS := Ends → St → Hp → Prop
def EP (X : Cx) (pins : List (Addr × Obj)) (σ : St) (Q : VK) (u : Value) (s' : Shared) : Prop := ∃ v H', Inv X pins σ H' s' ∧ RelV v u ∧ Q v H'
def TP (X : Cx) (pins : List (Addr × Obj)) (σ : St) (Q : Bool → Hp → Prop) (b : Bool) (s' : Shared) : Prop := ∃ H', Inv X pins σ H' s' ∧ Q b H'
def AP (X : Cx) (pins : List (Addr × Obj)) (σ : St) (Q : List V → Hp → Prop) (us : List Value) (s' : Shared) : Prop := ∃ vs H', Inv X pins σ H' s' ∧ Vals vs us ∧ Q vs H'
def SP (X : Cx) (pins : List (Addr × Obj)) (D : Ends) (f : Flow) (s' : Shared) : Prop :=
  match f with
  | .next => ∃ σ' H', Inv X pins σ' H' s' ∧ D.nx σ' H'
  | .brk => ∃ σ' H', Inv X pins σ' H' s' ∧ D.bk σ' H'
  | .cont => ∃ σ' H', Inv X pins σ' H' s' ∧ D.ct σ' H'
  | .ret u => ∃ v σ' H', Inv X pins σ' H' s' ∧ RelV v u ∧ D.rt v H'
def PE (X : Cx) (e : Expr) (t : TE) : Prop :=
  ∀ (pins : List (Addr × Obj)) (s : Shared) (σ : St) (H : Hp) (Q : VK), Inv X pins σ H s → t σ H Q → wpAny (model X.prog X.w) X.A (eval e X.env) (EP X pins σ Q) X.xe s
def PT (X : Cx) (e : Expr) (t : TT) : Prop :=
  ∀ (pins : List (Addr × Obj)) (s : Shared) (σ : St) (H : Hp) (Q : Bool → Hp → Prop), Inv X pins σ H s → t σ H Q → wpAny (model X.prog X.w) X.A (isTrue e X.env (eval e X.env)) (TP X pins σ Q) X.xe s
/-- a test whatever its 'whole' is (and, or) -/
def PW (X : Cx) (e : Expr) (t : TT) : Prop :=
  ∀ (whole : Sem Value) (pins : List (Addr × Obj)) (s : Shared) (σ : St) (H : Hp) (Q : Bool → Hp → Prop), Inv X pins σ H s → t σ H Q → wpAny (model X.prog X.w) X.A (isTrue e X.env whole) (TP X pins σ Q) X.xe s
theorem PW.pt {X : Cx} {e : Expr} {t : TT} (h : PW X e t) : PT X e t := h _
/-- an argument list (no star), from the left -/
def PA (X : Cx) (es : List Expr) (t : TA) : Prop :=
  ∀ (pos : Pos) (pins : List (Addr × Obj)) (s : Shared) (σ : St) (H : Hp) (Q : List V → Hp → Prop), Inv X pins σ H s → t σ H Q → wpAny (model X.prog X.w) X.A (spliced (backTo pos (starEach es X.env))) (AP X pins σ Q) X.xe s
def PS (X : Cx) (st : Stmt) (t : TS) : Prop :=
  ∀ (pins : List (Addr × Obj)) (s : Shared) (σ : St) (H : Hp) (D : Ends), Inv X pins σ H s → t D σ H → wpAny (model X.prog X.w) X.A (exec st X.env) (SP X pins D) X.xe s
def PSs (X : Cx) (st : List Stmt) (t : TS) : Prop :=
  ∀ (pins : List (Addr × Obj)) (s : Shared) (σ : St) (H : Hp) (D : Ends), Inv X pins σ H s → t D σ H → wpAny (model X.prog X.w) X.A (execs st X.env) (SP X pins D) X.xe s
/-- weaken the end -/
theorem thn {α : Type} {t : Sem α} {Q Q' : α → Shared → Prop} {M : Model} {A : Around} {E : Value → Shared → Prop} {s : Shared} (h : wpAny M A t Q E s) (hQ : ∀ a s, Q a s → Q' a s) : wpAny M A t Q' E s := wpAny_mono h hQ fun _ _ x => x
end L2
namespace L2
open PySem PySem.Spec PyProof.Rows
section
variable {X : Cx}
def tVar (i : Nat) : TE := fun σ H Q => ∃ v, σ[i]? = some (some v) ∧ Q v H
def tC (v : V) : TE := fun _ H Q => Q v H
theorem pe_var {i : Nat} {x : Str} {pos : Pos} (hN : X.N[i]? = some x) (hv : Vis X.env.scope x) (hd : (x == ("__debug__" : Str)) = false := by decide) (hcd : (x == ("__classdict__" : Str)) = false := by decide) : PE X (.Name x pos) (tVar i) := by
  intro pins s σ H Q I h
  obtain ⟨v, e, h⟩ := h
  obtain ⟨m, hn, hl⟩ := I.loc
  obtain ⟨u, r, l⟩ := hl i x v hN e hv
  have fin : EP X pins σ Q u s := ⟨v, H, I, r, h⟩
  rcases l with ⟨hk, hm⟩ | ⟨hk, c, hc, hcell⟩
  · exact wpAny_Name (wpAny_loadName_local I.ok.kind hk hn hm fin) hd
  · rcases hk with hk | hk
    · exact wpAny_Name (wpAny_loadName_cell I.ok.kind hk hc hcell fin) hd
    · exact wpAny_Name (wpAny_loadName_free I.ok.kind hk hc hcell fin hcd) hd
theorem pe_int {i j pos} : PE X (.Constant (.int i) j pos) (tC (.int i)) := fun _ _ _ H _ I h => wpAny_Constant_int ⟨.int i, H, I.tok _, ⟨_, rfl⟩, h⟩
theorem pe_bl {b j pos} : PE X (.Constant (.bool b) j pos) (tC (.bl b)) := fun _ _ _ H _ I h => Constant_bool ⟨.bl b, H, I, rfl, h⟩
/-- a global name of the def -/
def Gl (X : Cx) (x : Str) : Prop := X.env.kindOf x = some .globalImplicit
theorem ld_glob {E : Value → Shared → Prop} {pins : List (Addr × Obj)} {s : Shared} {σ : St} {H : Hp} {x : Str} {u : Value} {pos : Pos} {Q : Value → Shared → Prop} (I : Inv X pins σ H s) (hg : Gl X x) (hm : X.mg x = some u) (h : Q u s)
    (hd : (x == ("__debug__" : Str)) = false := by decide) : wpAny (model X.prog X.w) X.A (eval (.Name x pos) X.env) Q E s :=
  Calls.Name_function_global I.ok.kind hg (Calls.loadGlobal_global (by rw [I.ok.glob]; exact I.mod.glob.keeps I.bk) hm h) hd
theorem ld_blt {E : Value → Shared → Prop} {pins : List (Addr × Obj)} {s : Shared} {σ : St} {H : Hp} {x : Str} {u : Value} {pos : Pos} {Q : Value → Shared → Prop} (I : Inv X pins σ H s) (hg : Gl X x) (hm : X.mg x = none) (hv : bootBuiltins x = some u) (h : Q u s)
    (hn : x ≠ "__name__" := by decide) (hd : (x == ("__debug__" : Str)) = false := by decide) : wpAny (model X.prog X.w) X.A (eval (.Name x pos) X.env) Q E s := by
  obtain ⟨mb, h1, h2⟩ := I.mod.blt
  exact Calls.Name_function_global I.ok.kind hg (Calls.loadGlobal_builtin (by rw [I.ok.glob]; exact I.mod.glob.keeps I.bk) hm (by rw [I.ok.blt]; exact h1.keeps I.bk) ((h2 x hn).trans hv) h) hd
/-- a module's constant, a class, a function, as a value -/
theorem pe_glob {x : Str} {v : V} {u : Value} {pos : Pos} (hg : Gl X x) (hm : X.mg x = some u) (r : RelV v u) (hd : (x == ("__debug__" : Str)) = false := by decide) : PE X (.Name x pos) (tC v) :=
  fun _ _ _ H _ I h => ld_glob I hg hm ⟨v, H, I, r, h⟩ hd
variable {a b : Expr} {ta tb : TE} {pos : Pos}
def PC (X : Cx) (op : CmpOp) (a b : Expr) (t : TE) : Prop :=
  ∀ (pins : List (Addr × Obj)) (s : Shared) (σ : St) (H : Hp) (Q : VK), Inv X pins σ H s → t σ H Q →
    wpAny (model X.prog X.w) X.A (eval a X.env) (fun v s₁ => wpAny (model X.prog X.w) X.A (eval b X.env) (fun u s₂ => wpAny (model X.prog X.w) X.A (compareOp op v u) (EP X pins σ Q) X.xe s₂) X.xe s₁) X.xe s
theorem nobehind (b : Expr) {op : CmpOp} (h : op ≠ .In) (h2 : op ≠ .NotIn) : behindInMarks op b = false := by
  have e1 : (op == CmpOp.In) = false := by cases op <;> first | rfl | exact absurd rfl h
  have e2 : (op == CmpOp.NotIn) = false := by cases op <;> first | rfl | exact absurd rfl h2
  cases b <;> simp [behindInMarks, e1, e2]
/-- a comparison as a value, as a test -/
def tB (t : TE) : TT := fun σ H Q => t σ H fun x H1 => ∃ c, x = .bl c ∧ Q c H1
theorem pt_cmp {op : CmpOp} {t : TE} (h : PC X op a b t) (h1 : behindInMarks op b = false := by first | exact nobehind _ (by decide) (by decide) | rfl) : PT X (.Compare a [op] [b] pos) (tB t) := by
  intro pins s σ H Q I hw
  refine wpAny_isTrue_Compare1 (thn (h pins s σ H _ I hw) fun v s1 h1 => thn h1 fun u s2 h2 => thn h2 fun c s3 ⟨x, H1, I1, r1, q1⟩ => ?_) h1
  obtain ⟨d, rfl, q⟩ := q1
  cases r1
  exact wpAny_truthy_bool ⟨H1, I1, q⟩
variable {tA tB' : TT} {rest : List Expr}
def tOr (t u : TT) : TT := fun σ H Q => t σ H fun c H1 => if c = true then Q true H1 else u σ H1 Q
def tNot (t : TT) : TT := fun σ H Q => t σ H fun c H1 => Q (!c) H1
theorem pw_or1 (ha : PT X a tA) : PW X (.BoolOp .Or [a] pos) tA := by
  intro wh pins s σ H Q I h
  refine isTrue_or (thn (ha pins s σ H Q I h) fun c s1 e => ?_)
  cases c with
  | false => exact isTrue_or_nil e
  | true => exact e
theorem pw_or (ha : PT X a tA) (hb : PW X (.BoolOp .Or (b :: rest) pos) tB') : PW X (.BoolOp .Or (a :: b :: rest) pos) (tOr tA tB') := by
  intro wh pins s σ H Q I h
  refine isTrue_or (thn (ha pins s σ H _ I h) fun c s1 ⟨H1, I1, q1⟩ => ?_)
  cases c with
  | true => exact ⟨H1, I1, q1⟩
  | false => exact hb wh pins s1 σ H1 Q I1 q1
theorem pt_not (ha : PT X a tA) : PT X (.UnaryOp .Not a pos) (tNot tA) := by
  intro pins s σ H Q I h
  exact isTrue_not (ha pins s σ H (fun c H1 => Q (!c) H1) I h)
end
end L2
namespace L2
open PySem PySem.Spec PyProof.Rows
def SqL (K : PySem.W.Frag) (H : Hp) (a : Addr) (xs : List V) : Prop :=
  Rd H a (.lst xs) ∨
    ∃ (o : Obj) (its : Array Value) (n : Nat), K.lookup a = some o ∧ o.cls = .type "list" ∧ o.dict = none ∧ o.data = .seq its n ∧ its.size ≤ sizeLine ∧ Vals xs its.toList
def SqT (K : PySem.W.Frag) (H : Hp) (a : Addr) (xs : List V) : Prop :=
  Rd H a (.tup xs) ∨
    ∃ (o : Obj) (its : Array Value) (n : Nat), K.lookup a = some o ∧ o.cls = .type "tuple" ∧ o.data = .seq its n ∧ its.size ≤ sizeLine ∧ Vals xs its.toList
def absV : Value → Option V
  | .none => some .non
  | .bool b => some (.bl b)
  | .int i _ => some (.int i)
  | .str x _ => some (.str x)
  | .bytes b _ => some (.byt b)
  | .float b _ => some (.flt b)
  | .ref a => some (.ref a)
  | .type n => some (.ty n)
  | _ => none
theorem RelV.abs {x : V} {u : Value} (r : RelV x u) : absV u = some x := by
  cases x with
  | non => cases r; rfl
  | bl _ => cases r; rfl
  | int _ => obtain ⟨t, rfl⟩ := r; rfl
  | str _ => obtain ⟨t, rfl⟩ := r; rfl
  | byt _ => obtain ⟨t, rfl⟩ := r; rfl
  | flt _ => obtain ⟨t, rfl⟩ := r; rfl
  | ref _ => cases r; rfl
  | ty _ => cases r; rfl
theorem RelV.inj {x y : V} {u : Value} (r : RelV x u) (q : RelV y u) : x = y := Option.some.inj (r.abs.symm.trans q.abs)
theorem Vals.inj : ∀ {xs ys : List V} {us : List Value}, Vals xs us → Vals ys us → xs = ys
  | _, _, _, .nil, .nil => rfl
  | _, _, _, .cons r t, .cons r' t' => by rw [r.inj r', Vals.inj t t']
section
variable {X : Cx} {pins : List (Addr × Obj)} {σ : St} {H : Hp} {s : Shared} {a : Addr} {xs ys : List V}
theorem SqL.of {K : PySem.W.Frag} (h : H a = some (.lst xs)) : SqL K H a xs := .inl (.inl h)
theorem SqT.of {K : PySem.W.Frag} (h : H a = some (.tup xs)) : SqT K H a xs := .inl (.inl h)
theorem Inv.list (I : Inv X pins σ H s) (h : SqL X.K H a xs) : ∃ its : List Value, Vals xs its ∧ PlainL s.heap a its.toArray ∧ xs.length ≤ sizeLine := by
  rcases h with h | ⟨o, its, n, hk, hc, hd, hs, hz, r⟩
  · obtain ⟨z, its, n, r, e⟩ := h.ok I.hok
    exact ⟨its, r, ⟨_, n, e, rfl, rfl, rfl⟩, z⟩
  · refine ⟨its.toList, r, ⟨o, n, I.kIn a o hk, hc, hd, by simpa using hs⟩, ?_⟩
    have e := r.length
    simp only [Array.length_toList] at e
    omega
theorem Inv.tuple (I : Inv X pins σ H s) (h : SqT X.K H a xs) : ∃ its : List Value, Vals xs its ∧ IsTup s.heap a its.toArray ∧ xs.length ≤ sizeLine := by
  rcases h with h | ⟨o, its, n, hk, hc, hs, hz, r⟩
  · obtain ⟨z, its, r, p⟩ := h.ok I.hok
    exact ⟨its, r, p, z⟩
  · refine ⟨its.toList, r, ⟨o, I.kIn a o hk, hc, n, by simpa using hs⟩, ?_⟩
    have e := r.length
    simp only [Array.length_toList] at e
    omega
theorem Inv.list_inj (I : Inv X pins σ H s) (h : SqL X.K H a xs) (h' : SqL X.K H a ys) : xs = ys := by
  obtain ⟨its, r, ⟨o, n, e, _, _, d⟩, _⟩ := I.list h
  obtain ⟨its', r', ⟨o', n', e', _, _, d'⟩, _⟩ := I.list h'
  rw [e] at e'; cases e'
  rw [d] at d'
  injection d' with d1 _
  have : its = its' := by simpa using congrArg Array.toList d1
  subst this
  exact r.inj r'
end
abbrev Cx.wish (X : Cx) (E : Value → Shared → Prop) : Cx := { X with xe := E }
/-- no exception leaves -/
abbrev Cx.nox (X : Cx) : Cx := X.wish fun _ _ => False
theorem Cx.Ok.wish {X : Cx} (ok : X.Ok) (E : Value → Shared → Prop) : (X.wish E).Ok :=
  ⟨ok.mod, ok.kind, ok.glob, ok.blt, ok.above, ok.inj, ok.has, ok.cab, ok.hd, ok.frames, ok.stk, ok.exf, ok.bs, ok.bsz, ok.noex, ok.exfs, ok.funs, ok.frf⟩
theorem Cx.Ok.unwish {X : Cx} {E : Value → Shared → Prop} (ok : (X.wish E).Ok) : X.Ok :=
  ⟨ok.mod, ok.kind, ok.glob, ok.blt, ok.above, ok.inj, ok.has, ok.cab, ok.hd, ok.frames, ok.stk, ok.exf, ok.bs, ok.bsz, ok.noex, ok.exfs, ok.funs, ok.frf⟩
section
variable {X : Cx} {pins : List (Addr × Obj)} {σ : St} {H : Hp} {s : Shared} {E : Value → Shared → Prop}
theorem Inv.wish (I : Inv X pins σ H s) (E : Value → Shared → Prop) : Inv (X.wish E) pins σ H s := ⟨I.ok.wish E, I.os, I.bare, I.base, I.loc, I.cell, I.free, I.freeC, I.pin, I.hok, I.len⟩
theorem Inv.unwish (I : Inv (X.wish E) pins σ H s) : Inv X pins σ H s := ⟨I.ok.unwish, I.os, I.bare, I.base, I.loc, I.cell, I.free, I.freeC, I.pin, I.hok, I.len⟩
theorem SP.unwish {D : Ends} {f : Flow} {s' : Shared} (h : SP (X.wish E) pins D f s') : SP X pins D f s' := by
  cases f with
  | next => obtain ⟨σ', H', I, q⟩ := h; exact ⟨σ', H', I.unwish, q⟩
  | brk => obtain ⟨σ', H', I, q⟩ := h; exact ⟨σ', H', I.unwish, q⟩
  | cont => obtain ⟨σ', H', I, q⟩ := h; exact ⟨σ', H', I.unwish, q⟩
  | ret u => obtain ⟨v, σ', H', I, r, q⟩ := h; exact ⟨v, σ', H', I.unwish, r, q⟩
theorem PE.nox {e : Expr} {t : TE} (h : PE X.nox e t) : PE X e t := fun pins s σ H Q I hw =>
  wpAny_mono (h pins s σ H Q (I.wish _) hw) (fun _ _ ⟨v, H', I', r, q⟩ => ⟨v, H', I'.unwish, r, q⟩) fun _ _ z => False.elim z
theorem PT.nox {e : Expr} {t : TT} (h : PT X.nox e t) : PT X e t := fun pins s σ H Q I hw =>
  wpAny_mono (h pins s σ H Q (I.wish _) hw) (fun _ _ ⟨H', I', q⟩ => ⟨H', I'.unwish, q⟩) fun _ _ z => False.elim z
theorem PSs.nox {st : List Stmt} {t : TS} (h : PSs X.nox st t) : PSs X st t := fun pins s σ H D I hw =>
  wpAny_mono (h pins s σ H D (I.wish _) hw) (fun _ _ q => q.unwish) fun _ _ z => False.elim z
end
section
variable {X : Cx} {st : Stmt} {rest : List Stmt} {t u : TS} {e : Expr} {te : TE} {pos : Pos}
def tNext : TS := fun D σ H => D.nx σ H
def tSeq (t u : TS) : TS := fun D σ H => t { D with nx := u D } σ H
theorem pss_nil : PSs X [] tNext := fun _ _ σ H _ I h => wpAny_execs_nil ⟨σ, H, I, h⟩
theorem pss_cons (h1 : PS X st t) (h2 : PSs X rest u) : PSs X (st :: rest) (tSeq t u) := by
  intro pins s σ H D I h
  refine wpAny_execs_cons (thn (h1 pins s σ H { D with nx := u D } I h) fun f s1 q => ?_)
  cases f with
  | next =>
    obtain ⟨σ', H', I', q⟩ := q
    exact h2 pins s1 σ' H' D I' q
  | ret v => exact q
  | brk => exact q
  | cont => exact q
theorem pss_one (h1 : PS X st t) : PSs X [st] t := by
  intro pins s σ H D I h
  refine wpAny_execs_cons (thn (h1 pins s σ H D I h) fun f s1 q => ?_)
  cases f with
  | next => exact wpAny_execs_nil q
  | ret v => exact q
  | brk => exact q
  | cont => exact q
/-- in a def's body nothing is shown -/
theorem Inv.quiet {pins : List (Addr × Obj)} {σ : St} {H : Hp} {s : Shared} (I : Inv X pins σ H s) : interactive X.env = false := by simp [interactive, I.ok.kind]
/-- an expression whose value is dropped -/
def tDrop (te : TE) : TS := fun D σ H => te σ H fun _ H1 => D.nx σ H1
theorem ps_expr (he : PE X e te) (hs : swapsWith e none pos.line X.env = pure false := by rfl) : PS X (.Expr e pos) (tDrop te) := by
  intro pins s σ H D I h
  exact wpAny_Expr_any (thn (he pins s σ H _ I h) fun v s1 ⟨x, H1, I1, r1, q1⟩ => ⟨σ, H1, I1, q1⟩) I.quiet hs
def tRet (te : TE) : TS := fun D σ H => te σ H D.rt
theorem ps_ret (he : PE X e te) : PS X (.Return (some e) pos) (tRet te) := by
  intro pins s σ H D I h
  exact wpAny_Return_some (thn (he pins s σ H _ I h) fun v s1 ⟨x, H1, I1, r1, q1⟩ => ⟨x, σ, H1, I1, r1, q1⟩)
def tIfS (c : TT) (t u : TS) : TS := fun D σ H => c σ H fun b H1 => if b = true then t D σ H1 else u D σ H1
theorem ps_if {c : Expr} {a b : List Stmt} {tc : TT} (hc : PT X c tc) (ha : PSs X a t) (hb : PSs X b u) : PS X (.If c a b pos) (tIfS tc t u) := by
  intro pins s σ H D I h
  refine wpAny_If (thn (hc pins s σ H _ I h) fun d s1 ⟨H1, I1, q1⟩ => ?_)
  cases d with
  | true => exact ha pins s1 σ H1 D I1 q1
  | false => exact hb pins s1 σ H1 D I1 q1
end
abbrev TG := V → St → Hp → (St → Hp → Prop) → Prop
abbrev TGs := List V → St → Hp → (St → Hp → Prop) → Prop
def PG (X : Cx) (target : Expr) (t : TG) : Prop :=
  ∀ (pins : List (Addr × Obj)) (s : Shared) (σ : St) (H : Hp) (v : V) (u : Value) (Q : St → Hp → Prop), Inv X pins σ H s → RelV v u → t v σ H Q →
    wpAny (model X.prog X.w) X.A (assign target X.env u) (fun _ s' => ∃ σ' H', Inv X pins σ' H' s' ∧ Q σ' H') X.xe s
/-- several targets, one after another -/
def PGs (X : Cx) (ts : List Expr) (t : TGs) : Prop :=
  ∀ (pins : List (Addr × Obj)) (s : Shared) (σ : St) (H : Hp) (vs : List V) (us : List Value) (Q : St → Hp → Prop), Inv X pins σ H s → Vals vs us → t vs σ H Q →
    wpAny (model X.prog X.w) X.A (assignInOrder ((assignEach ts X.env).map (·.2)) us) (fun _ s' => ∃ σ' H', Inv X pins σ' H' s' ∧ Q σ' H') X.xe s
section
variable {X : Cx} {pos : Pos}
def gName (i : Nat) : TG := fun v σ H Q => Q (σ.set i (some v)) H
theorem pg_name {i : Nat} {x : Str} (hN : X.N.Nodup) (hi : X.N[i]? = some x) (hx : Loc X.env.scope x) (hf : X.fn x = true ∨ X.env.scope.names.lookup x = some .local := by first | exact .inl rfl | exact .inr rfl | assumption) : PG X (.Name x pos) (gName i) := by
  intro pins s σ H v u Q I r h
  exact wpAny_assign_Name (store_ok I hN hi hx r (fun s' I' => ⟨_, H, I', h⟩) hf)
def gNil : TGs := fun vs σ H Q => vs = [] ∧ Q σ H
def gCons (t : TG) (u : TGs) : TGs := fun vs σ H Q => ∃ v r, vs = v :: r ∧ t v σ H fun σ' H' => u r σ' H' Q
theorem pgs_nil : PGs X [] gNil := by
  intro pins s σ H vs us Q I r h
  obtain ⟨e, h⟩ := h
  subst e
  cases r
  exact assignInOrder_nil ⟨σ, H, I, h⟩
theorem pgs_cons {e : Expr} {es : List Expr} {t : TG} {u : TGs} (h1 : PG X e t) (h2 : PGs X es u)
    (hs : (assignEach (e :: es) X.env).map (·.2) = assign e X.env :: (assignEach es X.env).map (·.2) := by rfl) : PGs X (e :: es) (gCons t u) := by
  intro pins s σ H vs us Q I r h
  obtain ⟨v, vr, e1, h⟩ := h
  subst e1
  cases r with
  | cons r rr =>
    rw [hs]
    refine assignInOrder_cons (thn (h1 pins s σ H _ _ _ I r h) fun _ s1 ⟨σ1, H1, I1, q1⟩ => ?_)
    exact h2 pins s1 σ1 H1 _ _ Q I1 rr q1
/-- (a, b, ..) = a tuple of that length -/
def gTup (K : PySem.W.Frag) (n : Nat) (t : TGs) : TG := fun v σ H Q => ∃ a xs, v = .ref a ∧ SqT K H a xs ∧ xs.length = n ∧ t xs σ H Q
theorem pg_tup {es : List Expr} {k : Nat} {t : TGs} {n : Nat} (hc : X.calm = true) (h : PGs X es t)
    (hn : (assignEach es X.env).length = n := by rfl) (hst : (assignEach es X.env).findIdx? (·.1) = none := by rfl) : PG X (.Tuple es k pos) (gTup X.K n t) := by
  intro pins s σ H v u Q I r hw
  obtain ⟨a, xs, e1, hq, hl, hw⟩ := hw
  subst e1
  cases r
  obtain ⟨its, rv, ht, hz⟩ := I.tuple hq
  refine assign_Tuple_tuple (I.ok.hd hc) ht (by simp [hn, ← hl, rv.length]) hst fun h' hx => ?_
  have I1 : Inv X pins σ H { s with heap := h' } := I.kept (t' := s.toks) fun b o e => hx b o (Nat.ne_of_lt (Heap.lt_size e)) e
  exact h pins _ σ H xs _ Q I1 (by simpa using rv) hw
/-- target = value -/
def tAsg (te : TE) (g : TG) : TS := fun D σ H => te σ H fun x H1 => g x σ H1 D.nx
/-- name = value -/
theorem ps_set {i : Nat} {x : Str} {e : Expr} {te : TE} {pos' : Pos} (hN : X.N.Nodup) (hi : X.N[i]? = some x) (hx : Loc X.env.scope x) (he : PE X e te) (hs : swapsWith e (some (.Name x pos')) pos.line X.env = pure false := by rfl) (hf : X.fn x = true ∨ X.env.scope.names.lookup x = some .local := by first | exact .inl rfl | exact .inr rfl | assumption) :
    PS X (.Assign [.Name x pos'] e pos) (tAsg te (gName i)) := by
  intro pins s σ H D I h
  refine wpAny_Assign_Name (thn (he pins s σ H _ I h) fun v s1 ⟨y, H1, I1, r1, q1⟩ => ?_) hs
  exact store_ok I1 hN hi hx r1 (fun s2 I2 => ⟨_, H1, I2, q1⟩) hf
end
section
variable {X : Cx} {pos : Pos}
/-- the invariant W with its measure -/
def tWhile (c : TT) (tb : TS) : TS := fun D σ H => ∃ W : Nat → St → Hp → Prop, (∃ m, W m σ H) ∧ ∀ m σ H, W m σ H →
  c σ H fun b H1 => if b = true then ∃ N : St → Hp → Prop, (∀ σ' H', N σ' H' → ∃ m', m' < m ∧ W m' σ' H') ∧ tb { D with nx := N, ct := N, bk := D.nx } σ H1 else D.nx σ H1
theorem ps_while {c : Expr} {body : List Stmt} {tc : TT} {tb : TS} (hp : PassesOwn (model X.prog X.w) X.A X.env X.xe) (hc : PT X c tc) (hb : PSs X body tb) : PS X (.While c body [] pos) (tWhile tc tb) := by
  intro pins s σ H D I h
  obtain ⟨W, ⟨m0, w0⟩, turn⟩ := h
  refine wpAny_While (codeAny_whileLoop (fun n s' => ∃ σ' H', Inv X pins σ' H' s' ∧ W n σ' H') ?_ m0 ⟨σ, H, I, w0⟩)
  rintro n s1 ⟨σ1, H1, I1, w1⟩
  refine wpAny_passesOwn hp (thn (hc pins s1 σ1 H1 _ I1 (turn n σ1 H1 w1)) fun b s2 ⟨H2, I2, q2⟩ => ?_)
  cases b with
  | true =>
    obtain ⟨N, hN, q2⟩ := q2
    rw [if_pos rfl]
    refine wpAny_passesOwn hp (thn (hb pins s2 σ1 H2 _ I2 q2) fun f s3 q3 => ?_)
    cases f with
    | next =>
      obtain ⟨σ3, H3, I3, n3⟩ := q3
      obtain ⟨m', hm, w3⟩ := hN σ3 H3 n3
      exact ⟨m', hm, σ3, H3, I3, w3⟩
    | cont =>
      obtain ⟨σ3, H3, I3, n3⟩ := q3
      obtain ⟨m', hm, w3⟩ := hN σ3 H3 n3
      exact ⟨m', hm, σ3, H3, I3, w3⟩
    | brk => exact q3
    | ret v => exact q3
  | false =>
    rw [if_neg Bool.false_ne_true]
    exact wpAny_execs_nil ⟨σ1, H2, I2, q2⟩
end
/-- at turn i: it yields x (the heap may grow), or it stops -/
structure It where
  go : Nat → Hp → Prop
  yld : Nat → Hp → V → Hp → Prop
  stop : Nat → Hp → Prop
/-- the iterator's own objects may turn: they are not the frame's, not pinned, younger than the entry (or a comprehension's own) -/
def FpOk (X : Cx) (pins : List (Addr × Obj)) (H : Hp) (b : Addr) : Prop :=
  H b = none ∧ b ≠ X.env.locals ∧ b ∉ X.fs ∧ (b ∈ X.ex ∨ X.s_0.heap.objs.size ≤ b) ∧ (∀ x c, X.env.cells.lookup x = some c → c ≠ b) ∧ ∀ p ∈ X.pn ++ pins, p.1 ≠ b
theorem Inv.fpOk {X : Cx} {pins : List (Addr × Obj)} {σ : St} {H H' : Hp} {s : Shared} {b : Addr} (I : Inv X pins σ H s) (hb : s.heap.objs.size ≤ b) (hn : H' b = none) : FpOk X pins H' b := by
  refine ⟨hn, Nat.ne_of_gt (Nat.lt_of_lt_of_le I.lt hb), I.nofs hb, .inr (Nat.le_trans I.sz hb), fun x c e z => ?_, fun p hp z => ?_⟩
  · obtain ⟨v, q⟩ := I.cell x c e
    exact absurd (Nat.lt_of_lt_of_le q.lt (by rw [z]; exact hb)) (Nat.lt_irrefl _)
  · exact absurd (Nat.lt_of_lt_of_le (Heap.lt_size (I.pin p hp).1) (by rw [z]; exact hb)) (Nat.lt_irrefl _)
structure Turn (P : Program) (w : World) (K : PySem.W.Frag) (tg : Expr) (J : It) (fp : List Addr) (it : Addr) (tn : Nat → Heap → Prop) : Prop where
  mem : it ∈ fp
  obj : ∀ i h, tn i h → ∀ b ∈ fp, ∃ o, h.get? b = some o ∧ ∀ v, o.data ≠ .cell v
  keep : ∀ i h h', tn i h → (∀ b ∈ fp, ∀ o, h.get? b = some o → h'.get? b = some o) → tn i h'
  item : ∀ (X : Cx), X.prog = P → X.w = w → X.K = K → X.calm = true → ∀ (i : Nat) (pins : List (Addr × Obj)) (s : Shared) (σ : St) (H : Hp) (E : Value → Shared → Prop), Inv X pins σ H s → (∀ b ∈ fp, FpOk X pins H b) → tn i s.heap → J.go i H →
    wpAny (model P w) X.A (pyNext (.ref it)) (fun r s1 => ∃ u, r = some u ∧
      wpAny (model P w) X.A (letOwnedTupleGo tg (.ref it) u) (fun _ s2 => ∃ x H', Inv X pins σ H' s2 ∧ RelV x u ∧ J.yld i H x H' ∧ tn (i + 1) s2.heap ∧ ∀ b ∈ fp, H' b = none) E s1) E s
  done : ∀ (X : Cx), X.prog = P → X.w = w → X.K = K → X.calm = true → ∀ (i : Nat) (pins : List (Addr × Obj)) (s : Shared) (σ : St) (H : Hp) (E : Value → Shared → Prop), Inv X pins σ H s → (∀ b ∈ fp, FpOk X pins H b) → tn i s.heap → J.stop i H →
    wpAny (model P w) X.A (pyNext (.ref it)) (fun r s1 => r = none ∧ Inv X pins σ H s1) E s
  self : ∀ (A : Around) (i : Nat) (s : Shared) (Q : Value → Shared → Prop) (E : Value → Shared → Prop), tn i s.heap → Q (.ref it) s → wpAny (model P w) A (pyIter (.ref it)) Q E s
abbrev TI := St → Hp → (It → Hp → Prop) → Prop
/-- an iterator has come -/
def PIE (X : Cx) (pins : List (Addr × Obj)) (σ : St) (tg : Expr) (R : It → Hp → Prop) (itv : Value) (s2 : Shared) : Prop :=
  ∃ (it : Addr) (fp : List Addr) (tn : Nat → Heap → Prop) (J : It) (H' : Hp), itv = .ref it ∧ Inv X pins σ H' s2 ∧ Turn X.prog X.w X.K tg J fp it tn ∧ tn 0 s2.heap ∧ (∀ b ∈ fp, FpOk X pins H' b) ∧ R J H'
def PI (X : Cx) (tg iter : Expr) (wi : TI) : Prop :=
  ∀ (pins : List (Addr × Obj)) (s : Shared) (σ : St) (H : Hp) (R : It → Hp → Prop), Inv X pins σ H s → wi σ H R →
    wpAny (model X.prog X.w) X.A (eval iter X.env) (fun v s1 => wpAny (model X.prog X.w) X.A (pyIter v) (PIE X pins σ tg R) X.xe s1) X.xe s
/-- the step ahead of the store is nothing for an iterator that keeps no tuple -/
theorem go_of {M : Model} {A : Around} {E : Value → Shared → Prop} {s : Shared} {tg : Expr} {it : Addr} {u : Value} {o : Obj} {n : String} {vs : Array Value} {Q : Unit → Shared → Prop} (ho : s.heap.get? it = some o) (hc : o.cls = .type n) (hd : o.data = .fields vs)
    (hn : ["enumerate", "zip", "dict_itemiterator", "dict_reverseitemiterator", "odict_iterator", "itertools.zip_longest", "itertools.pairwise"].contains n = false) (hQ : Q () s) : wpAny M A (letOwnedTupleGo tg (.ref it) u) Q E s := by
  unfold letOwnedTupleGo
  cases tg <;> first
    | exact wpAny_pure hQ
    | (cases u <;> first
        | exact wpAny_pure hQ
        | (refine wpAny_bind (wpAny_load ho ?_)
           rw [hc, hd]
           show wpAny M A (if (["enumerate", "zip", "dict_itemiterator", "dict_reverseitemiterator", "odict_iterator", "itertools.zip_longest", "itertools.pairwise"].contains n && vs[0]? == some (rawInt _)) = true then _ else _) Q E s
           rw [if_neg (by intro h; rw [hn, Bool.false_and] at h; cases h)]
           exact wpAny_pure hQ))
/-- the list at a, as it stands at each turn (a loop may append to it) -/
def Itl (K : PySem.W.Frag) (a : Addr) : It :=
  ⟨fun i H => ∃ xs x, SqL K H a xs ∧ xs[i]? = some x, fun i H x H' => H' = H ∧ ∀ xs, SqL K H a xs → xs[i]? = some x, fun i H => ∃ xs, SqL K H a xs ∧ xs.length ≤ i⟩
/-- lo, lo + 1, .. (n of them) -/
def Itr (lo : Int) (n : Nat) : It := ⟨fun i _ => i < n, fun i H x H' => H' = H ∧ x = .int (lo + i), fun i _ => n ≤ i⟩
theorem turn_list {P : Program} {w : World} {K : PySem.W.Frag} {tg : Expr} (a it : Addr) : Turn P w K tg (Itl K a) [it] it (fun i h => h.IsListIter it a i) where
  mem := by simp
  obj := fun i h st b hb => by
    have e : b = it := by simpa using hb
    subst e
    obtain ⟨o, e, c, d⟩ := st
    exact ⟨o, e, fun v z => by rw [d] at z; cases z⟩
  keep := fun i h h' st k => st.at fun o e => k it (by simp) o e
  item := by
    intro X hP hw hK hc i pins s σ H E I hf st hg
    subst hP hw hK
    obtain ⟨xs, x, hq, hx⟩ := hg
    obtain ⟨its, rv, p, hz⟩ := I.list hq
    obtain ⟨u, hu, ru⟩ := rv.get hx
    obtain ⟨f0, f1, f2, f3, f4, f5⟩ := hf it (by simp)
    refine wpAny_pyNext_list_item st p.isList (x := u) (by simpa using hu) fun h' st' sb => ?_
    have I1 : Inv X pins σ H { s with heap := h' } := I.turned (t' := s.toks) (fun b o hb e => (sb.2 b hb).trans e) f0 f1 f3 f4 f5
    obtain ⟨o, e, c, d⟩ := id st'
    exact ⟨u, rfl, go_of (s := { s with heap := h' }) e c d (by decide) ⟨x, H, I1, ru, ⟨rfl, fun ys hy => by rw [I.list_inj hy hq]; exact hx⟩, st', fun b hb => (hf b hb).1⟩⟩
  done := by
    intro X hP hw hK hc i pins s σ H E I hf st hg
    subst hP hw hK
    obtain ⟨xs, hq, hx⟩ := hg
    obtain ⟨its, rv, p, hz⟩ := I.list hq
    obtain ⟨f0, f1, f2, f3, f4, f5⟩ := hf it (by simp)
    have hl := rv.length
    exact wpAny_pyNext_list_end (I.ok.hd hc) st p.isList (by simp; omega) fun h' eb => ⟨rfl, I.turned (t' := s.toks) (fun b o hb e => eb b o hb e) f0 f1 f3 f4 f5⟩
  self := fun _ _ _ _ _ st h => wpAny_pyIter_listiter st h
theorem turn_range {P : Program} {w : World} {K : PySem.W.Frag} {tg : Expr} (it : Addr) (lo : Int) (n : Nat) : Turn P w K tg (Itr lo n) [it] it (fun i h => IsRangeIter h it (lo + (i : Nat) * 1) ((n : Int) - (i : Nat)) 1) where
  mem := by simp
  obj := fun i h st b hb => by
    have e : b = it := by simpa using hb
    subst e
    exact ⟨_, st, fun v z => by
      have z' : Data.fields _ = Data.cell v := z
      cases z'⟩
  keep := fun i h h' st k => k it (by simp) _ st
  item := by
    intro X hP hw hK hc i pins s σ H E I hf st hg
    subst hP hw hK
    obtain ⟨f0, f1, f2, f3, f4, f5⟩ := hf it (by simp)
    have W := Walks.range (prog := X.prog) (w := X.w) (I.ok.hd hc) it lo 1 n
    refine W.item i s _ _ hg st fun v h' tk hv st' kk => ?_
    obtain ⟨t, rfl⟩ := hv
    have I1 : Inv X pins σ H { s with heap := h', toks := tk } := I.turned (fun b o hb e => kk b o (by simpa using hb) e) f0 f1 f3 f4 f5
    refine ⟨_, rfl, go_of (s := { s with heap := h', toks := tk }) (n := "range_iterator") st' rfl rfl (by decide) ⟨.int (lo + i), H, I1, ⟨t, ?_⟩, ⟨rfl, rfl⟩, st', fun b hb => (hf b hb).1⟩⟩
    rw [Int.mul_one]
  done := by
    intro X hP hw hK hc i pins s σ H E I hf st hg
    subst hP hw hK
    obtain ⟨f0, f1, f2, f3, f4, f5⟩ := hf it (by simp)
    exact wpAny_pyNext_range_end (I.ok.hd hc) st (by have : n ≤ i := hg; omega) fun h' eb => ⟨rfl, I.turned (t' := s.toks) (fun b o hb e => eb b o hb e) f0 f1 f3 f4 f5⟩
  self := fun _ _ _ _ _ st h => wpAny_pyIter_rangeiter st h
end L2
namespace L2
open PySem PySem.Spec PyProof.Rows
section
variable {X : Cx} {tg : Expr}
def iList (K : PySem.W.Frag) (tl : TE) : TI := fun σ H R => tl σ H fun x H1 => ∃ a, x = .ref a ∧ (∃ xs, SqL K H1 a xs) ∧ R (Itl K a) H1
theorem pi_list {l : Expr} {tl : TE} (hl : PE X l tl) : PI X tg l (iList X.K tl) := by
  intro pins s σ H R I h
  refine thn (hl pins s σ H _ I h) fun v s1 ⟨x, H1, I1, r1, q1⟩ => ?_
  obtain ⟨a, e, ⟨xs, hq⟩, q⟩ := q1
  subst e
  cases r1
  obtain ⟨its, rv, p, hz⟩ := I1.list hq
  refine wpAny_pyIter_list p.isList ?_
  refine ⟨s1.heap.objs.size, [s1.heap.objs.size], _, _, H1, rfl, I1.kept (t' := s1.toks) fun b o e => Heap.get?_push_of_some _ e, turn_list a _, ⟨_, Heap.get?_push_size _ rfl, rfl, rfl⟩, fun b hb => ?_, q⟩
  have e : b = s1.heap.objs.size := by simpa using hb
  subst e
  exact I1.fpOk (Nat.le_refl _) (I1.hok.fresh (Nat.le_refl _))
/-- a range object just made, walked -/
theorem range_it {pins : List (Addr × Obj)} {σ : St} {H : Hp} {s : Shared} {R : It → Hp → Prop} {E : Value → Shared → Prop} {lo hi : Int} {t u v : Tok} {tk : Nat} (I : Inv X pins σ H s) (h1 : -(2 ^ 62) ≤ lo) (h2 : lo < 2 ^ 62) (h3 : -(2 ^ 62) ≤ hi) (h4 : hi < 2 ^ 62)
    (q : R (Itr lo (hi - lo).toNat) H) : wpAny (model X.prog X.w) X.A (pyIter (.ref s.heap.objs.size)) (PIE X pins σ tg R) E { s with heap := s.heap.push { cls := .type "range", data := .fields #[.int lo t, .int hi u, .int 1 v] }, toks := tk } := by
  refine wpAny_pyIter_range (IsRange.new ..) (small_one h1 h2 h3 h4) ?_
  have I1 : Inv X pins σ H { s with heap := s.heap.push { cls := .type "range", data := .fields #[.int lo t, .int hi u, .int 1 v] }, toks := tk } := I.kept fun b o e => Heap.get?_push_of_some _ e
  refine ⟨(s.heap.push { cls := .type "range", data := .fields #[.int lo t, .int hi u, .int 1 v] }).objs.size, [(s.heap.push { cls := .type "range", data := .fields #[.int lo t, .int hi u, .int 1 v] }).objs.size], _, _, H, rfl,
    I1.kept (t' := tk) fun b o e => Heap.get?_push_of_some _ e, turn_range _ lo (hi - lo).toNat, ?_, fun b hb => ?_, q⟩
  · have e1 : lo + ((0 : Nat) : Int) * 1 = lo := by simp
    have e2 : (((hi - lo).toNat : Nat) : Int) - ((0 : Nat) : Int) = Builtin.Range.rangeSize lo hi 1 := by rw [rangeSize_one]; split <;> omega
    show IsRangeIter _ _ (lo + ((0 : Nat) : Int) * 1) ((((hi - lo).toNat : Nat) : Int) - ((0 : Nat) : Int)) 1
    rw [e1, e2]
    exact Heap.get?_push_size _ rfl
  · have e : b = (s.heap.push { cls := .type "range", data := .fields #[.int lo t, .int hi u, .int 1 v] }).objs.size := by simpa using hb
    subst e
    exact I1.fpOk (Nat.le_refl _) (I1.hok.fresh (Nat.le_refl _))
def iRng1 (ta : TA) : TI := fun σ H R => ta σ H fun vs H1 => ∃ j : Int, vs = [.int j] ∧ -(2 ^ 62) ≤ j ∧ j < 2 ^ 62 ∧ R (Itr 0 j.toNat) H1
theorem pi_range1 {a : Expr} {ta : TA} {p pos : Pos} (hg : Gl X "range") (hm : X.mg "range" = none) (ha : PA X [a] ta) (hs : starEach [a] X.env = [(false, eval a X.env)] := by rfl) : PI X tg (.Call (.Name "range" p) [a] [] pos) (iRng1 ta) := by
  intro pins s σ H R I h
  refine Call_ (ld_blt I hg hm boot_range (PyProof.Rows.callWith_type1 (thn (ha pos pins s σ H _ I h) fun us s1 ⟨vs, H1, I1, r1, q1⟩ => ?_) hs rfl))
  obtain ⟨j, e, q1, q2, q⟩ := q1
  subst e
  cases r1 with
  | cons r rr =>
    cases rr
    obtain ⟨t, rfl⟩ := r
    exact call_range_1 (range_it I1 (by omega) (by omega) q1 q2 (by simpa using q))
/-- W: the invariant by the turn and a measure; N: what the body is to reach -/
def tFor (wi : TI) (g : TG) (tb : TS) : TS := fun D σ H => wi σ H fun J H1 => ∃ W : Nat → Nat → St → Hp → Prop, (∃ m, W 0 m σ H1) ∧ ∀ i m σ H, W i m σ H →
  (J.stop i H ∧ D.nx σ H) ∨ (J.go i H ∧ ∃ N : St → Hp → Prop, (∀ σ' H', N σ' H' → ∃ m', m' < m ∧ W (i + 1) m' σ' H') ∧ ∀ x H', J.yld i H x H' → g x σ H' fun σ2 H2 => tb { D with nx := N, ct := N, bk := D.nx } σ2 H2)
/-- the records at fp as they stand -/
def pinsAt (fp : List Addr) (h : Heap) : List (Addr × Obj) := fp.filterMap fun b => (h.get? b).map fun o => (b, o)
theorem mem_pinsAt {fp : List Addr} {h : Heap} {b : Addr} {o : Obj} (hb : b ∈ fp) (e : h.get? b = some o) : (b, o) ∈ pinsAt fp h := List.mem_filterMap.mpr ⟨b, hb, by rw [e]; rfl⟩
theorem of_pinsAt {fp : List Addr} {h : Heap} {p : Addr × Obj} (hp : p ∈ pinsAt fp h) : p.1 ∈ fp ∧ h.get? p.1 = some p.2 := by
  obtain ⟨b, hb, e⟩ := List.mem_filterMap.mp hp
  cases q : h.get? b with
  | none => rw [q] at e; cases e
  | some o =>
    rw [q] at e
    have e' : (b, o) = p := Option.some.inj e
    subst e'
    exact ⟨hb, q⟩
theorem Inv.pinned {pins : List (Addr × Obj)} {σ : St} {H : Hp} {s : Shared} {fp : List Addr} (I : Inv X pins σ H s) (hf : ∀ b ∈ fp, FpOk X pins H b) (ho : ∀ b ∈ fp, ∃ o, s.heap.get? b = some o ∧ ∀ v, o.data ≠ .cell v) : Inv X (pins ++ pinsAt fp s.heap) σ H s :=
  I.pins_of fun p hp => (List.mem_append.mp hp).elim (fun z => I.pin p (List.mem_append_right _ z)) fun z => by
    obtain ⟨hb, e⟩ := of_pinsAt z
    obtain ⟨f0, f1, f2, _⟩ := hf p.1 hb
    obtain ⟨o, e', d⟩ := ho p.1 hb
    rw [e] at e'; cases e'
    exact ⟨e, f0, f1, f2, d⟩
theorem Inv.unpinned {pins pl : List (Addr × Obj)} {σ : St} {H : Hp} {s : Shared} (I : Inv X (pins ++ pl) σ H s) : Inv X pins σ H s := I.pins_of fun p hp => I.pin p (List.mem_append_right _ (List.mem_append_left _ hp))
theorem ps_for {iter : Expr} {body : List Stmt} {wi : TI} {g : TG} {tb : TS} {pos : Pos} (hp : PassesOwn (model X.prog X.w) X.A X.env X.xe) (hc : X.calm = true) (hi : PI X tg iter wi) (hg : PG X tg g) (hb : PSs X body tb)
    (hs : ∀ x, foldedSetIterable iter X.env x = pure x := by intro _; rfl) : PS X (.For tg iter body [] pos) (tFor wi g tb) := by
  intro pins s σ H D I h
  refine wpAny_For (thn (hi pins s σ H _ I h) fun v s1 h1 => thn h1 fun itv s2 h2 => ?_) hs
  obtain ⟨it, fp, tn, J, H2, e, I2, T, st2, f2, W, ⟨m0, w0⟩, turn⟩ := h2
  subst e
  -- what stays true of the iterator's objects through the loop
  have stat : ∀ {H' : Hp}, (∀ b ∈ fp, H' b = none) → ∀ b ∈ fp, FpOk X pins H' b := fun hn b hb => ⟨hn b hb, (f2 b hb).2⟩
  refine codeAny_forLoop_any (fun n s' => ∃ i σ' H', Inv X pins σ' H' s' ∧ tn i s'.heap ∧ (∀ b ∈ fp, H' b = none) ∧ W i n σ' H') ?_ m0 ⟨0, σ, H2, I2, st2, fun b hb => (f2 b hb).1, w0⟩
  rintro n s3 ⟨i, σ3, H3, I3, st3, fr3, w3⟩
  rcases turn i n σ3 H3 w3 with ⟨stop, qn⟩ | ⟨go, N, hN, step⟩
  · refine wpAny_passesOwn hp (thn (T.done X rfl rfl rfl hc i pins s3 σ3 H3 X.xe I3 (stat fr3) st3 stop) fun r s4 ⟨hr, I4⟩ => ?_)
    subst hr
    exact wpAny_execs_nil ⟨σ3, H3, I4, qn⟩
  · refine wpAny_passesOwn hp (thn (T.item X rfl rfl rfl hc i pins s3 σ3 H3 X.xe I3 (stat fr3) st3 go) fun r s4 ⟨u, hr, h4⟩ => ?_)
    subst hr
    refine wpAny_passesOwn hp (thn h4 fun _ s5 ⟨x, H5, I5, r5, y5, st5, fr5⟩ => ?_)
    have I5' := I5.pinned (stat fr5) (T.obj _ _ st5)
    refine wpAny_passesOwn hp (thn (hg _ s5 σ3 H5 x u _ I5' r5 (step x H5 y5)) fun _ s6 ⟨σ6, H6, I6, q6⟩ => ?_)
    refine wpAny_passesOwn hp (thn (hb _ s6 σ6 H6 _ I6 q6) fun f s7 q7 => ?_)
    have again : ∀ {σ7 : St} {H7 : Hp}, Inv X (pins ++ pinsAt fp s5.heap) σ7 H7 s7 → N σ7 H7 → ∃ m, m < n ∧ ∃ i σ' H', Inv X pins σ' H' s7 ∧ tn i s7.heap ∧ (∀ b ∈ fp, H' b = none) ∧ W i m σ' H' := fun {σ7 H7} I7 n7 => by
      obtain ⟨m', hm, w7⟩ := hN σ7 H7 n7
      refine ⟨m', hm, i + 1, σ7, H7, I7.unpinned, T.keep _ _ _ st5 fun b hb o e => (I7.pin (b, o) (List.mem_append_right _ (List.mem_append_right _ (mem_pinsAt hb e)))).1, fun b hb => ?_, w7⟩
      obtain ⟨o, e, d⟩ := T.obj _ _ st5 b hb
      exact (I7.pin (b, o) (List.mem_append_right _ (List.mem_append_right _ (mem_pinsAt hb e)))).2.1
    cases f with
    | next => obtain ⟨σ7, H7, I7, n7⟩ := q7; exact again I7 n7
    | cont => obtain ⟨σ7, H7, I7, n7⟩ := q7; exact again I7 n7
    | brk => obtain ⟨σ7, H7, I7, q7⟩ := q7; exact ⟨σ7, H7, I7.unpinned, q7⟩
    | ret v => obtain ⟨x7, σ7, H7, I7, r7, q7⟩ := q7; exact ⟨x7, σ7, H7, I7.unpinned, r7, q7⟩
end
/-- over a list that the body leaves as it is -/
theorem for_list {K : PySem.W.Frag} {a : Addr} {xs : List V} {g : TG} {tb : TS} {D : Ends} {σ : St} {H : Hp} (Pv : Nat → St → Hp → Prop) (h0 : Pv 0 σ H) (hl : ∀ i σ H, i ≤ xs.length → Pv i σ H → SqL K H a xs)
    (hs : ∀ i x σ H, xs[i]? = some x → Pv i σ H → g x σ H fun σ2 H2 => tb { D with nx := Pv (i + 1), ct := Pv (i + 1), bk := D.nx } σ2 H2) (hd : ∀ σ H, Pv xs.length σ H → D.nx σ H) :
    ∃ W : Nat → Nat → St → Hp → Prop, (∃ m, W 0 m σ H) ∧ ∀ i m σ H, W i m σ H →
      ((Itl K a).stop i H ∧ D.nx σ H) ∨ ((Itl K a).go i H ∧ ∃ N : St → Hp → Prop, (∀ σ' H', N σ' H' → ∃ m', m' < m ∧ W (i + 1) m' σ' H') ∧ ∀ x H', (Itl K a).yld i H x H' → g x σ H' fun σ2 H2 => tb { D with nx := N, ct := N, bk := D.nx } σ2 H2) := by
  refine ⟨fun i m σ H => m = xs.length - i ∧ i ≤ xs.length ∧ Pv i σ H, ⟨xs.length, by simp, Nat.zero_le _, h0⟩, ?_⟩
  rintro i m σ H ⟨rfl, hi, p⟩
  have q := hl i σ H hi p
  by_cases hlt : i < xs.length
  · refine .inr ⟨⟨xs, xs[i], q, by simp [hlt]⟩, Pv (i + 1), fun σ' H' p' => ⟨xs.length - (i + 1), by omega, rfl, hlt, p'⟩, fun x H' y => ?_⟩
    obtain ⟨e, y⟩ := y
    subst e
    exact hs i x σ _ (y xs q) p
  · have e : i = xs.length := by omega
    subst e
    exact .inl ⟨⟨xs, q, Nat.le_refl _⟩, hd σ H p⟩
theorem for_range {lo : Int} {n : Nat} {g : TG} {tb : TS} {D : Ends} {σ : St} {H : Hp} (Pv : Nat → St → Hp → Prop) (h0 : Pv 0 σ H)
    (hs : ∀ i σ H, i < n → Pv i σ H → g (.int (lo + i)) σ H fun σ2 H2 => tb { D with nx := Pv (i + 1), ct := Pv (i + 1), bk := D.nx } σ2 H2) (hd : ∀ σ H, Pv n σ H → D.nx σ H) :
    ∃ W : Nat → Nat → St → Hp → Prop, (∃ m, W 0 m σ H) ∧ ∀ i m σ H, W i m σ H →
      ((Itr lo n).stop i H ∧ D.nx σ H) ∨ ((Itr lo n).go i H ∧ ∃ N : St → Hp → Prop, (∀ σ' H', N σ' H' → ∃ m', m' < m ∧ W (i + 1) m' σ' H') ∧ ∀ x H', (Itr lo n).yld i H x H' → g x σ H' fun σ2 H2 => tb { D with nx := N, ct := N, bk := D.nx } σ2 H2) := by
  refine ⟨fun i m σ H => m = n - i ∧ i ≤ n ∧ Pv i σ H, ⟨n, by simp, Nat.zero_le _, h0⟩, ?_⟩
  rintro i m σ H ⟨rfl, hi, p⟩
  by_cases hlt : i < n
  · refine .inr ⟨hlt, Pv (i + 1), fun σ' H' p' => ⟨n - (i + 1), by omega, rfl, hlt, p'⟩, fun x H' y => ?_⟩
    obtain ⟨e, y⟩ := y
    subst e y
    exact hs i σ _ hlt p
  · have e : i = n := by omega
    subst e
    exact .inl ⟨Nat.le_refl _, hd σ H p⟩
end L2
namespace L2
open PySem PySem.Spec PyProof.Rows
abbrev R2 := V → V → Hp → VK → Prop
/-- a two-place operation on values: f is binaryOp op, inplaceOp op or compareOp op -/
def OpR (X : Cx) (f : Value → Value → Sem Value) (r : R2) : Prop :=
  ∀ (pins : List (Addr × Obj)) (s : Shared) (σ : St) (H : Hp) (x y : V) (v u : Value) (Q : VK), Inv X pins σ H s → RelV x v → RelV y u → r x y H Q →
    wpAny (model X.prog X.w) X.A (f v u) (EP X pins σ Q) X.xe s
/-- a call of a value that is known (a builtin, a type) with values -/
def CallR (X : Cx) (f : Value) (r : List V → Hp → VK → Prop) : Prop :=
  ∀ (pins : List (Addr × Obj)) (s : Shared) (σ : St) (H : Hp) (xs : List V) (us : List Value) (Q : VK), Inv X pins σ H s → Vals xs us → r xs H Q →
    wpAny (model X.prog X.w) X.A (call f us) (EP X pins σ Q) X.xe s
/-- a value's truth -/
def TruR (X : Cx) (r : V → Hp → (Bool → Hp → Prop) → Prop) : Prop :=
  ∀ (pins : List (Addr × Obj)) (s : Shared) (σ : St) (H : Hp) (x : V) (v : Value) (Q : Bool → Hp → Prop), Inv X pins σ H s → RelV x v → r x H Q →
    wpAny (model X.prog X.w) X.A (truthy v) (TP X pins σ Q) X.xe s
def tOp (r : R2) (ta tb : TE) : TE := fun σ H Q => ta σ H fun x H1 => tb σ H1 fun y H2 => r x y H2 Q
def rI0 (g : Int → Int → V) : R2 := fun x y H Q => ∃ i j, x = .int i ∧ y = .int j ∧ Q (g i j) H
section
variable {X : Cx} {a b c : Expr} {ta tb tc : TE} {pos : Pos}
theorem binT (ha : PE X a ta) (hb : PE X b tb) {pins : List (Addr × Obj)} {s : Shared} {σ : St} {H : Hp} {R : V → V → Hp → Prop} (I : Inv X pins σ H s)
    (h : ta σ H fun x H1 => tb σ H1 fun y H2 => R x y H2) {Q : Value → Shared → Prop} {f : Value → Value → Sem Value}
    (hf : ∀ v u s2 x y H2, Inv X pins σ H2 s2 → RelV x v → RelV y u → R x y H2 → wpAny (model X.prog X.w) X.A (f v u) Q X.xe s2) :
    wpAny (model X.prog X.w) X.A (eval a X.env) (fun v s₁ => wpAny (model X.prog X.w) X.A (eval b X.env) (fun u s₂ => wpAny (model X.prog X.w) X.A (f v u) Q X.xe s₂) X.xe s₁) X.xe s := by
  refine thn (ha pins s σ H _ I h) fun v s1 ⟨x, H1, I1, r1, q1⟩ => ?_
  refine thn (hb pins s1 σ H1 _ I1 q1) fun u s2 ⟨y, H2, I2, r2, q2⟩ => ?_
  exact hf v u s2 x y H2 I2 r1 r2 q2
theorem pe_op {op : Operator} {r : R2} (ho : OpR X (binaryOp op) r) (ha : PE X a ta) (hb : PE X b tb) : PE X (.BinOp a op b pos) (tOp r ta tb) := by
  intro pins s σ H Q I h
  exact wpAny_BinOp (binT ha hb I h fun v u s2 x y H2 I2 rx ry q => ho pins s2 σ H2 x y v u Q I2 rx ry q)
theorem opI0 {f : Value → Value → Sem Value} {g : Int → Int → Int}
    (rule : ∀ (i j : Int) (t u : Tok) (s : Shared) (Q : Value → Shared → Prop) (E : Value → Shared → Prop), Q (.int (g i j) s.toks) { s with toks := s.toks + 1 } → wpAny (model X.prog X.w) X.A (f (.int i t) (.int j u)) Q E s) :
    OpR X f (rI0 fun i j => .int (g i j)) := by
  intro pins s σ H x y v u Q I rx ry h
  obtain ⟨i, j, rfl, rfl, q⟩ := h
  obtain ⟨t, rfl⟩ := rx
  obtain ⟨t', rfl⟩ := ry
  exact rule i j t t' s _ _ ⟨.int (g i j), H, I.tok _, ⟨_, rfl⟩, q⟩
theorem opB0 {f : Value → Value → Sem Value} {g : Int → Int → Bool}
    (rule : ∀ (i j : Int) (t u : Tok) (s : Shared) (Q : Value → Shared → Prop) (E : Value → Shared → Prop), Q (.bool (g i j)) s → wpAny (model X.prog X.w) X.A (f (.int i t) (.int j u)) Q E s) :
    OpR X f (rI0 fun i j => .bl (g i j)) := by
  intro pins s σ H x y v u Q I rx ry h
  obtain ⟨i, j, rfl, rfl, q⟩ := h
  obtain ⟨t, rfl⟩ := rx
  obtain ⟨t', rfl⟩ := ry
  exact rule i j t t' s _ _ ⟨.bl (g i j), H, I, rfl, q⟩
def CMul (i j : Int) : Prop := (-(2 ^ 64) < i ∧ i < 2 ^ 64) ∨ (-(2 ^ 64) < j ∧ j < 2 ^ 64)
theorem CMul.ok {i j : Int} (h : CMul i j) : IntMulOk i j := by
  rcases h with ⟨h1, h2⟩ | ⟨h1, h2⟩
  · exact .of_left (intBits_le_64 h1 h2)
  · exact .of_right (intBits_le_64 h1 h2)
theorem op_add : OpR X (binaryOp .Add) (rI0 fun i j => .int (i + j)) := opI0 fun _ _ _ _ _ _ _ q => add_int q
theorem op_sub : OpR X (binaryOp .Sub) (rI0 fun i j => .int (i - j)) := opI0 fun _ _ _ _ _ _ _ q => sub_int q
end
/-- the scalars that == tells apart as data does -/
def scal : V → V → Bool
  | .non, .non => true | .non, .int _ => true | .int _, .non => true | .non, .bl _ => true | .bl _, .non => true | .non, .str _ => true | .str _, .non => true
  | .int _, .int _ => true | .bl _, .bl _ => true | .str _, .str _ => true | .byt _, .byt _ => true
  | .int _, .str _ => true | .str _, .int _ => true | .bl _, .str _ => true | .str _, .bl _ => true
  | _, _ => false
def rEq : R2 := fun x y H Q => scal x y = true ∧ Q (.bl (decide (x = y))) H
theorem dec_int {i j : Int} : decide (V.int i = V.int j) = (i == j) := by
  rw [Bool.eq_iff_iff]
  simp
theorem dec_bl {i j : Bool} : decide (V.bl i = V.bl j) = (i == j) := by
  rw [Bool.eq_iff_iff]
  simp
theorem dec_str {i j : Str} : decide (V.str i = V.str j) = (i == j) := by
  rw [Bool.eq_iff_iff]
  simp
theorem dec_byt {i j : Array UInt8} : decide (V.byt i = V.byt j) = (i.toList == j.toList) := by
  rw [Bool.eq_iff_iff]
  cases i
  cases j
  simp
section
variable {X : Cx} {a b c : Expr} {ta tb tc : TE} {pos : Pos}
theorem fin_bl {pins : List (Addr × Obj)} {σ : St} {H : Hp} {s : Shared} {Q : VK} {k k' : Bool} (I : Inv X pins σ H s) (q : Q (.bl k) H) (e : k = k') : EP X pins σ Q (.bool k') s := by
  subst e
  exact ⟨.bl k, H, I, rfl, q⟩
theorem op_eq : OpR X (compareOp .Eq) rEq := by
  intro pins s σ H x y v u Q I rx ry h
  obtain ⟨hs, q⟩ := h
  cases x with
  | non =>
    cases rx
    cases y with
    | non => cases ry; exact PySem.EqNone.eq_none_none (fin_bl I q (by simp))
    | bl j => cases ry; exact PySem.EqNone.eq_none_bool (fin_bl I q (by simp))
    | int j => obtain ⟨t', rfl⟩ := ry; exact PySem.EqNone.eq_none_int (fin_bl I q (by simp))
    | str j => obtain ⟨t', rfl⟩ := ry; exact PySem.EqNone.eq_none_str (fin_bl I q (by simp))
    | _ => exact absurd (show false = true from hs) Bool.false_ne_true
  | bl i =>
    cases rx
    cases y with
    | non => cases ry; exact PySem.EqNone.eq_bool_none (fin_bl I q (by simp))
    | bl j => cases ry; exact eq_bool (fin_bl I q dec_bl)
    | str j => obtain ⟨t', rfl⟩ := ry; exact PySem.EqMixed.eq_bool_str (fin_bl I q (by simp))
    | _ => exact absurd (show false = true from hs) Bool.false_ne_true
  | int i =>
    obtain ⟨t, rfl⟩ := rx
    cases y with
    | non => cases ry; exact PySem.EqNone.eq_int_none (fin_bl I q (by simp))
    | int j => obtain ⟨t', rfl⟩ := ry; exact eq_int (fin_bl I q dec_int)
    | str j => obtain ⟨t', rfl⟩ := ry; exact PySem.EqMixed.eq_int_str (fin_bl I q (by simp))
    | _ => exact absurd (show false = true from hs) Bool.false_ne_true
  | str i =>
    obtain ⟨t, rfl⟩ := rx
    cases y with
    | non => cases ry; exact PySem.EqNone.eq_str_none (fin_bl I q (by simp))
    | bl j => cases ry; exact PySem.EqMixed.eq_str_bool (fin_bl I q (by simp))
    | int j => obtain ⟨t', rfl⟩ := ry; exact PySem.EqMixed.eq_str_int (fin_bl I q (by simp))
    | str j => obtain ⟨t', rfl⟩ := ry; exact eq_str (fin_bl I q dec_str)
    | _ => exact absurd (show false = true from hs) Bool.false_ne_true
  | byt i =>
    obtain ⟨t, rfl⟩ := rx
    cases y with
    | byt j => obtain ⟨t', rfl⟩ := ry; exact PySem.W.eq_bytes (fin_bl I q dec_byt)
    | _ => exact absurd (show false = true from hs) Bool.false_ne_true
  | _ => cases y <;> exact absurd (show false = true from hs) Bool.false_ne_true
theorem op_lt : OpR X (compareOp .Lt) (rI0 fun i j => .bl (decide (i < j))) := opB0 fun _ _ _ _ _ _ _ q => lt_int q
theorem op_gt : OpR X (compareOp .Gt) (rI0 fun i j => .bl (decide (j < i))) := opB0 fun _ _ _ _ _ _ _ q => gt_int q
/-- two rules for one operation: by cases -/
theorem OpR.or {f : Value → Value → Sem Value} {r r' : R2} (h : OpR X f r) (h' : OpR X f r') : OpR X f (fun x y H Q => r x y H Q ∨ r' x y H Q) := by
  intro pins s σ H x y v u Q I rx ry q
  rcases q with q | q
  · exact h pins s σ H x y v u Q I rx ry q
  · exact h' pins s σ H x y v u Q I rx ry q
theorem nomark (b : Expr) {op : CmpOp} (h : op ≠ .In := by decide) (h2 : op ≠ .NotIn := by decide) : behindInMarks op b = false := by
  have e1 : (op == CmpOp.In) = false := by cases op <;> first | rfl | exact absurd rfl h
  have e2 : (op == CmpOp.NotIn) = false := by cases op <;> first | rfl | exact absurd rfl h2
  cases b <;> simp [behindInMarks, e1, e2]
/-- a comparison as a value; hm: nomark b, or (for in, not in) by with_unfolding_all rfl -/
theorem pe_cmpR {op : CmpOp} {r : R2} (ho : OpR X (compareOp op) r) (ha : PE X a ta) (hb : PE X b tb) (hm : behindInMarks op b = false) : PE X (.Compare a [op] [b] pos) (tOp r ta tb) := by
  intro pins s σ H Q I h
  exact wpAny_Compare1 (binT ha hb I h fun v u s2 x y H2 I2 rx ry q => ho pins s2 σ H2 x y v u Q I2 rx ry q) hm
/-- a reading of a value as a test -/
def tTest (t : TE) : TT := fun σ H Q => t σ H fun x H' => ∃ k, x = .bl k ∧ Q k H'
theorem pt_cmpR {op : CmpOp} {r : R2} (ho : OpR X (compareOp op) r) (ha : PE X a ta) (hb : PE X b tb) (hm : behindInMarks op b = false) : PT X (.Compare a [op] [b] pos) (tTest (tOp r ta tb)) := by
  intro pins s σ H Q I h
  refine wpAny_isTrue_Compare1 (thn (ha pins s σ H _ I h) fun v s1 ⟨x, H1, I1, r1, q1⟩ => thn (hb pins s1 σ H1 _ I1 q1) fun u s2 ⟨y, H2, I2, r2, q2⟩ =>
    thn (ho pins s2 σ H2 x y v u _ I2 r1 r2 q2) fun c s3 ⟨z, H3, I3, r3, k, e, q3⟩ => ?_) hm
  subst e
  cases r3
  exact wpAny_truthy_bool ⟨H3, I3, q3⟩
/-- a value's truth by the abstract heap -/
def TruV (K : PySem.W.Frag) (x : V) (H : Hp) (k : Bool) : Prop :=
  match x with
  | .non => k = false
  | .bl b => k = b
  | .int i => k = (i != 0)
  | .str y => y.length ≤ sizeLine ∧ k = ((y.length : Int) != 0)
  | .byt y => y.size ≤ sizeLine ∧ k = ((y.size : Int) != 0)
  | .ref p => (∃ xs, SqL K H p xs ∧ k = !xs.isEmpty) ∨ (∃ xs, SqT K H p xs ∧ k = !xs.isEmpty) ∨ ∃ kvs, H p = some (.dK kvs) ∧ k = !kvs.isEmpty
  | _ => False
theorem isEmpty_kv {κ : Type} {kvs : List (κ × V)} {vs : List (κ × Value)} (r : KV kvs vs) : (!vs.isEmpty) = !kvs.isEmpty := by
  cases r <;> rfl
theorem isEmpty_of {xs : List V} {its : List Value} (r : Vals xs its) : (!its.toArray.isEmpty) = !xs.isEmpty := by
  cases r <;> simp
theorem line63 : (sizeLine : Nat) < 2 ^ 63 := by rw [sizeLine_eq]; decide
theorem tru_ok : TruR X (fun x H Q => ∃ k, TruV X.K x H k ∧ Q k H) := by
  intro pins s σ H x v Q I rx h
  obtain ⟨k, e, q⟩ := h
  have hl := line63
  have hs : sizeLine = 16777216 := sizeLine_eq
  cases x with
  | non =>
    cases rx
    have e' : k = false := e
    subst e'
    exact truthy_none ⟨H, I, q⟩
  | bl b =>
    cases rx
    have e' : k = b := e
    subst e'
    exact wpAny_truthy_bool ⟨H, I, q⟩
  | int i =>
    obtain ⟨t, rfl⟩ := rx
    have e' : k = (i != 0) := e
    subst e'
    exact PySem.P.truthy_int ⟨H, I, q⟩
  | str y =>
    obtain ⟨t, rfl⟩ := rx
    obtain ⟨hy, e'⟩ : y.length ≤ sizeLine ∧ k = ((y.length : Int) != 0) := e
    subst e'
    exact PySem.P.truthy_str (by omega) ⟨H, I.tok _, q⟩
  | byt y =>
    obtain ⟨t, rfl⟩ := rx
    obtain ⟨hy, e'⟩ : y.size ≤ sizeLine ∧ k = ((y.size : Int) != 0) := e
    subst e'
    exact PySem.W.truthy_bytes (by omega) ⟨H, I.tok _, q⟩
  | ref p =>
    cases rx
    have e' : (∃ xs, SqL X.K H p xs ∧ k = !xs.isEmpty) ∨ (∃ xs, SqT X.K H p xs ∧ k = !xs.isEmpty) ∨ ∃ kvs, H p = some (.dK kvs) ∧ k = !kvs.isEmpty := e
    rcases e' with ⟨xs, hx, e'⟩ | ⟨xs, hx, e'⟩ | ⟨kvs, hx, e'⟩
    · subst e'
      obtain ⟨its, r, pl, hz⟩ := I.list hx
      have hlen := r.length
      exact wpAny_truthy_list pl.isList (by simp only [List.size_toArray]; omega) ⟨H, I.tok _, by rw [isEmpty_of r]; exact q⟩
    · subst e'
      obtain ⟨its, r, pl, hz⟩ := I.tuple hx
      have hlen := r.length
      exact truthy_tuple pl (by simp only [List.size_toArray]; omega) ⟨H, I.tok _, by rw [isEmpty_of r]; exact q⟩
    · subst e'
      obtain ⟨hz, hS, vs, r, m⟩ : kvs.length ≤ sizeLine ∧ (p == sysModules) = false ∧ ∃ vs, KV kvs vs ∧ s.heap.DictOf (mixKind X.prog X.w) p vs := I.hok p _ hx
      have hlen : kvs.length = vs.length := Paired.length r
      exact wpAny_truthy_dict hS m (by omega) ⟨H, I.tok _, by rw [isEmpty_kv r]; exact q⟩
  | _ => exact (show False from e).elim
/-- any expression whose test is its value's truth (a name, a call, a subscript, a field ..: he by fun _ => rfl) -/
theorem pt_truth (ha : PE X a ta) (he : ∀ whole, isTrue a X.env whole = (do let v ← whole; standAt a.pos; holding [v] (truthy v))) :
    PT X a (fun σ H Q => ta σ H fun x H' => ∃ k, TruV X.K x H' k ∧ Q k H') := by
  intro pins s σ H Q I h
  exact isTrue_plain (thn (ha pins s σ H _ I h) fun v s1 ⟨x, H1, I1, r1, q1⟩ => tru_ok pins s1 σ H1 x v Q I1 r1 q1) (he _)
theorem vals1 {x : V} {us : List Value} (r : Vals [x] us) : ∃ u, us = [u] ∧ RelV x u := by
  cases r with
  | cons r1 r2 => cases r2; exact ⟨_, rfl, r1⟩
theorem vals2 {x y : V} {us : List Value} (r : Vals [x, y] us) : ∃ u w', us = [u, w'] ∧ RelV x u ∧ RelV y w' := by
  cases r with
  | cons r1 r2 =>
    cases r2 with
    | cons r3 r4 => cases r4; exact ⟨_, _, rfl, r1, r3⟩
end
end L2
namespace L2
open PySem PySem.Spec PyProof.Rows
structure ObjM (h : Heap) (x dx C : Addr) (mA : Str → Option Value) : Prop where
  obj : h.get? x = some (PySem.W.instObj C dx)
  ns : h.Ns1 dx mA
  ne : dx ≠ x
theorem lookIn_ns {h : Heap} {dx : Addr} {mA : Str → Option Value} (n : h.Ns1 dx mA) : ∃ od, h.get? dx = some od ∧ ∀ name, PySem.W.lookIn name od = some (mA name) := by
  obtain ⟨o, es, ep, ho, hd, hk, _, hm⟩ := n
  refine ⟨o, ho, fun name => ?_⟩
  have e := hm name
  unfold nsFind findBy at e
  rw [← Array.find?_toList] at e
  unfold PySem.W.lookIn
  rw [hd]
  dsimp only
  split
  · rename_i y q
    rw [q] at e
    exact congrArg some e
  · rename_i q
    rw [q] at e
    have a : es.toList.any (·.refKey) = false := by
      rw [List.any_eq_false]
      intro y hy
      obtain ⟨z, t, hkey⟩ := hk y (Array.mem_toList_iff.mp hy)
      simp [DictEntry.refKey, hkey]
    have a' : ¬ es.toList.any (·.refKey) = true := by rw [a]; exact Bool.false_ne_true
    rw [if_neg a']
    exact congrArg some e
theorem ObjM.look {h : Heap} {x dx C : Addr} {mA : Str → Option Value} (I : ObjM h x dx C mA) : ∃ od, PySem.W.InstAt h x (PySem.W.instObj C dx) C (some od) ∧ ∀ name, PySem.W.lookIn name od = some (mA name) :=
  let ⟨od, ho, hl⟩ := lookIn_ns I.ns
  ⟨od, ⟨I.obj, rfl, rfl, ho⟩, hl⟩
section
variable {prog : Program} {w : World} {A : Around} {E : Value → Shared → Prop} {s : Shared} {K : PySem.W.Frag} {x dx C f : Addr} {mA : Str → Option Value} {name : Str} {v : Value}
theorem get_map {expr : Bool} {Q : Value → Shared → Prop} (X : K.In s.heap) (I : ObjM s.heap x dx C mA) (hg : PySem.W.plainGet K C name = true) (hh : PySem.W.hasDictIn K C = true)
    (ha : PySem.W.findIn K (.ref C) name = some none) (hv : mA name = some v) (hv' : PySem.W.handedIn v = true) (h : Q v { s with toks := s.toks + 1 }) :
    wpAny (model prog w) A (getAttr (.ref x) name expr) Q E s := by
  obtain ⟨od, J, hl⟩ := I.look
  exact PySem.W.get_value X J (PySem.W.plainGet_of hg).1 (PySem.W.findObj_own hh ha rfl (by rw [hl, hv])) hv' h
theorem get_meth {pl : Sem Bool} {Q : Value × List Value → Shared → Prop} (X : K.In s.heap) (I : ObjM s.heap x dx C mA) (hg : PySem.W.plainGet K C name = true)
    (hf : PySem.W.findIn K (.ref C) name = some (some (.ref f))) (ht : PySem.W.isFn K (.ref f) = true) (hv : mA name = none) (h : Q (.ref f, [.ref x]) s) :
    wpAny (model prog w) A (getMethod (.ref x) name pl) Q E s := by
  obtain ⟨od, J, hl⟩ := I.look
  exact PySem.W.method_fn X J (PySem.W.plainGet_of hg).1 (PySem.W.plainGet_of hg).2 hf (beq_iff_eq.mp ht) (by show (PySem.W.lookIn name od).map (·.isSome) = some false; rw [hl, hv]; rfl) h
theorem set_map {ns : List Str} {Q : Unit → Shared → Prop} (X : K.In s.heap) (I : ObjM s.heap x dx C mA)
    (hs : PySem.W.findIn K (.ref C) "__setattr__" = some (some (.builtin "object.__setattr__"))) (hp : PySem.W.plainOver K C = true) (ht : PySem.W.takerIn K C name = some none) (hh : PySem.W.hasDictIn K C = true)
    (hw : PySem.Within mA ns) (hsz : ns.length ≤ sizeLine)
    (h : ∀ h', ObjM h' x dx C (fun y => if y = name then some v else mA y) → Heap.SameBut dx s.heap h' → Q () { s with heap := h', toks := s.toks + 2 }) :
    wpAny (model prog w) A (setAttr (.ref x) name v) Q E s := by
  obtain ⟨od, J, hl⟩ := I.look
  refine PySem.W.set_plain X J hs (PySem.W.osa_open (s := { s with toks := s.toks + 1 }) (r := none) X J hp ht fun b => ?_)
  obtain ⟨cd, hc, hd'⟩ := PySem.W.any_some hh
  have hx : s.heap.get? x = some ⟨.ref C, some dx, .plain, #[]⟩ := I.obj
  refine wpAny_bind (wpAny_pure (wpAny_bind (wpAny_bind (wpAny_loadPart hx (wpAny_bind (PySem.W.Looks.here (s := { s with toks := s.toks + 1 }) (PySem.W.looks_clsIn X hc) ?_))))))
  rw [hd']
  refine wpAny_pure (a := some dx) (wpAny_bind (wpAny_pure (wpAny_bind ?_)))
  refine wpAny_nsSet1 (s := { s with toks := s.toks + 1 }) I.ns fun h' hn2 hs2 => ?_
  obtain ⟨oD, esD, epD, hoD, hdD, hcD⟩ := hn2.count (PySem.Within.cons name v hw)
  refine wpAny_bind (wpAny_lookBehind hoD (by rw [hdD]; exact pastItsLine_dict (Nat.le_trans hcD (by rw [List.length_cons]; omega))) ?_)
  exact wpAny_pure (h _ ⟨(hs2.2 _ (Ne.symm I.ne)).trans I.obj, hn2, I.ne⟩ hs2)
/-- C(..): the dict at the heap's end, the instance behind it; then its __init__ -/
theorem make_map {R : Result → Shared → Prop} {vs : List Value} {kw : List (Str × Value)} (X : K.In s.heap) (hm : PySem.W.makesIn K C = true)
    (hi : PySem.W.findIn K (.ref C) "__init__" = some (some (.ref f))) (hf : PySem.W.typeIn K (.ref f) = some (.type "function"))
    (h : codeAny (model prog w) (A.under (.builtin "type.__call__" ⟨.ref C :: vs, kw⟩)) (.call (.ref f) ⟨.ref (s.heap.objs.size + 1) :: vs, kw⟩) (PySem.W.InitBack (s.heap.objs.size + 1) R)
      { s with heap := (s.heap.push PySem.W.emptyDict).push (PySem.W.instObj C s.heap.objs.size) }) :
    codeAny (model prog w) A (.call (.ref C) ⟨vs, kw⟩) R s := by
  obtain ⟨hh, g, d, t, os⟩ := s
  exact PySem.W.make_core (PySem.W.makes_of X hm) (PySem.W.looks_findIn X hi) (fun self => PySem.W.bind_fn X self hf) (.inl rfl) h
end
def putF (f : Str) (v : V) : List (Str × V) → List (Str × V)
  | [] => [(f, v)]
  | (g, x) :: r => if g = f then (g, v) :: r else (g, x) :: putF f v r
theorem lookup_putF (f g : Str) (v : V) : ∀ fs : List (Str × V), (putF f v fs).lookup g = if g = f then some v else fs.lookup g
  | [] => by
    show List.lookup g [(f, v)] = _
    by_cases h : g = f
    · have hb : (g == f) = true := beq_iff_eq.mpr h
      simp only [List.lookup, hb, if_pos h]
    · have hb : (g == f) = false := beq_eq_false_iff_ne.mpr h
      simp only [List.lookup, hb, if_neg h]
  | (k, x) :: r => by
    have ih := lookup_putF f g v r
    rw [show putF f v ((k, x) :: r) = (if k = f then (k, v) :: r else (k, x) :: putF f v r) from rfl]
    by_cases hk : k = f
    · rw [if_pos hk]
      by_cases h : g = k
      · have hb : (g == k) = true := beq_iff_eq.mpr h
        simp only [List.lookup, hb, if_pos (h.trans hk)]
      · have hb : (g == k) = false := beq_eq_false_iff_ne.mpr h
        simp only [List.lookup, hb, if_neg (fun e : g = f => h (e.trans hk.symm))]
    · rw [if_neg hk]
      by_cases h : g = k
      · have hb : (g == k) = true := beq_iff_eq.mpr h
        simp only [List.lookup, hb, if_neg (fun e : g = f => hk (h.symm.trans e))]
      · have hb : (g == k) = false := beq_eq_false_iff_ne.mpr h
        simp only [List.lookup, hb]
        exact ih
theorem keys_putF (f : Str) (v : V) : ∀ fs : List (Str × V), f ∈ (putF f v fs).map (·.1) ∧ ∀ g, g ∈ fs.map (·.1) → g ∈ (putF f v fs).map (·.1)
  | [] => ⟨by simp [putF], fun g h => by simp at h⟩
  | (k, x) :: r => by
    obtain ⟨i1, i2⟩ := keys_putF f v r
    rw [show putF f v ((k, x) :: r) = (if k = f then (k, v) :: r else (k, x) :: putF f v r) from rfl]
    by_cases hk : k = f
    · rw [if_pos hk]
      subst hk
      exact ⟨by simp, fun g h => by simpa using h⟩
    · rw [if_neg hk]
      refine ⟨?_, fun g h => ?_⟩
      · rw [List.map_cons]
        exact List.mem_cons_of_mem _ i1
      · rw [List.map_cons] at h ⊢
        rcases List.mem_cons.mp h with e | e
        · exact List.mem_cons.mpr (.inl e)
        · exact List.mem_cons_of_mem _ (i2 g e)
theorem length_putF (f : Str) (v : V) : ∀ fs : List (Str × V), (putF f v fs).length ≤ fs.length + 1
  | [] => by simp [putF]
  | (k, x) :: r => by
    have ih := length_putF f v r
    rw [show putF f v ((k, x) :: r) = (if k = f then (k, v) :: r else (k, x) :: putF f v r) from rfl]
    by_cases hk : k = f
    · rw [if_pos hk, List.length_cons, List.length_cons]; omega
    · rw [if_neg hk, List.length_cons, List.length_cons]; omega
theorem RelO.some_of {v : V} {o : Option Value} (r : RelO (some v) o) : ∃ u, o = some u ∧ RelV v u := by
  cases o with
  | none => exact (show False from r).elim
  | some u => exact ⟨u, rfl, r⟩
theorem RelO.none_of {o : Option Value} (r : RelO none o) : o = none := by
  cases o with
  | none => rfl
  | some u => exact (show False from r).elim
theorem handed_of {v : V} {u : Value} (r : RelV v u) : PySem.W.handedIn u = true := by
  cases v with
  | non => cases (show u = Value.none from r); rfl
  | bl b => cases (show u = Value.bool b from r); rfl
  | int i => obtain ⟨t, e⟩ := (show ∃ t, u = Value.int i t from r); cases e; rfl
  | str x => obtain ⟨t, e⟩ := (show ∃ t, u = Value.str x t from r); cases e; rfl
  | byt b => obtain ⟨t, e⟩ := (show ∃ t, u = Value.bytes b t from r); cases e; rfl
  | flt b => obtain ⟨t, e⟩ := (show ∃ t, u = Value.float b t from r); cases e; rfl
  | ref a => cases (show u = Value.ref a from r); rfl
  | ty n => cases (show u = Value.type n from r); rfl
section
variable {P : Program} {w : World} {H H' : Hp} {h h' : Heap} {a C dx : Addr} {fs fs' : List (Str × V)}
theorem ins_get (hok : HOk P w H h) (e : H a = some (.ins C dx fs)) : ∃ mA, ObjM h a dx C mA ∧ (∀ f, RelO (fs.lookup f) (mA f)) ∧ PySem.Within mA (fs.map (·.1)) ∧ fs.length ≤ 1000 ∧ H dx = some (.own a) := by
  obtain ⟨d, z, ne, ob, mA, n, r, q⟩ := (show ObjOk P w H h a (.ins C dx fs) from hok a _ e)
  exact ⟨mA, ⟨ob, n, ne⟩, r, q, z, d⟩
end
structure Cls (K : PySem.W.Frag) (C : Addr) : Prop where
  pg : PySem.W.plainGet K C Str.empty = true
  hd : PySem.W.hasDictIn K C = true
  po : PySem.W.plainOver K C = true
  sa : PySem.W.findIn K (.ref C) "__setattr__" = some (some (.builtin "object.__setattr__"))
theorem Cls.get {K : PySem.W.Frag} {C : Addr} (c : Cls K C) (f : Str) : PySem.W.plainGet K C f = true := c.pg
/-- no class of it has the name -/
def NoAttr (K : PySem.W.Frag) (C : Addr) (f : Str) : Prop := PySem.W.findIn K (.ref C) f = some none
theorem NoAttr.taker {K : PySem.W.Frag} {C : Addr} {f : Str} (n : NoAttr K C f) : PySem.W.takerIn K C f = some none := by
  unfold PySem.W.takerIn
  rw [show PySem.W.findIn K (.ref C) f = some none from n]
  rfl
/-- a method: a plain def of the class or of one above it -/
structure Meth (K : PySem.W.Frag) (C : Addr) (m : Str) (f : Addr) : Prop where
  at_ : PySem.W.findIn K (.ref C) m = some (some (.ref f))
  fn : PySem.W.isFn K (.ref f) = true
  kp : PySem.W.keepIn K (.ref f) = true
section
variable {X : Cx} {pins : List (Addr × Obj)} {σ : St} {H : Hp} {s : Shared} {a C dx : Addr} {fs : List (Str × V)} {f : Str} {v : V} {A : Around} {E : Value → Shared → Prop}
theorem getattr_ok {b : Bool} {Q : Value → Shared → Prop} (I : Inv X pins σ H s) (e : H a = some (.ins C dx fs)) (c : Cls X.K C) (n : NoAttr X.K C f) (l : fs.lookup f = some v)
    (h : ∀ u s', Inv X pins σ H s' → RelV v u → Q u s') : wpAny (model X.prog X.w) A (getAttr (.ref a) f b) Q E s := by
  obtain ⟨mA, O, r, _, _, _⟩ := ins_get I.hok e
  obtain ⟨u, hu, ru⟩ := RelO.some_of (v := v) (o := mA f) (by rw [← l]; exact r f)
  exact get_map I.kIn O (c.get f) c.hd n hu (handed_of ru) (h u _ (I.tok _) ru)
theorem getmeth_ok {m : Str} {g : Addr} {pl : Sem Bool} {Q : Value × List Value → Shared → Prop} (I : Inv X pins σ H s) (e : H a = some (.ins C dx fs)) (c : Cls X.K C) (k : Meth X.K C m g) (l : fs.lookup m = none)
    (h : Q (.ref g, [.ref a]) s) : wpAny (model X.prog X.w) A (getMethod (.ref a) m pl) Q E s := by
  obtain ⟨mA, O, r, _, _, _⟩ := ins_get I.hok e
  have hn : mA m = none := RelO.none_of (by rw [← l]; exact r m)
  exact get_meth I.kIn O (c.get m) k.at_ k.fn hn h
theorem setattr_ok {y : V} {u : Value} {Q : Unit → Shared → Prop} (I : Inv X pins σ H s) (e : H a = some (.ins C dx fs)) (c : Cls X.K C) (n : NoAttr X.K C f) (hl : fs.length < 1000) (ry : RelV y u)
    (h : ∀ s', Inv X pins σ (upd H a (.ins C dx (putF f y fs))) s' → Q () s') : wpAny (model X.prog X.w) A (setAttr (.ref a) f u) Q E s := by
  obtain ⟨mA, O, r, wi, _, ho⟩ := ins_get I.hok e
  have hz : (fs.map (·.1)).length ≤ sizeLine := by rw [List.length_map, sizeLine_eq]; omega
  refine set_map I.kIn O c.sa c.po n.taker c.hd wi hz fun h' O' sb => h _ ?_
  have hd : ∃ o, h'.get? dx = some o := let ⟨o, _, _, e', _⟩ := O'.ns; ⟨o, e'⟩
  refine I.write (x := a) (e := dx) (by rw [e]; exact True.intro) (.inr ho) (fun b q hb z => (sb.2 b hb).trans z) hd ?_
  refine ⟨by rw [upd_ne O.ne]; exact ho, ?_, O.ne, O'.obj, _, O'.ns, fun g => ?_, fun g hg => ?_⟩
  · have := length_putF f y fs; omega
  · show RelO ((putF f y fs).lookup g) (if g = f then some u else mA g)
    rw [lookup_putF]
    by_cases q : g = f
    · rw [if_pos q, if_pos q]; exact ry
    · rw [if_neg q, if_neg q]; exact r g
  · by_cases q : g = f
    · rw [q]; exact (keys_putF f y fs).1
    · refine (keys_putF f y fs).2 g (wi g fun z => hg ?_)
      show (if g = f then some u else mA g) = none
      rw [if_neg q]; exact z
/-- a new instance, tracked, without attributes -/
theorem Inv.made (I : Inv X pins σ H s) : Inv X pins σ (upd (upd H s.heap.objs.size (.own (s.heap.objs.size + 1))) (s.heap.objs.size + 1) (.ins C s.heap.objs.size []))
    { s with heap := (s.heap.push PySem.W.emptyDict).push (PySem.W.instObj C s.heap.objs.size) } := by
  have e1 : (s.heap.push PySem.W.emptyDict).get? s.heap.objs.size = some PySem.W.emptyDict := Heap.get?_push_size s.heap rfl
  have e2 : ((s.heap.push PySem.W.emptyDict).push (PySem.W.instObj C s.heap.objs.size)).get? (s.heap.objs.size + 1) = some (PySem.W.instObj C s.heap.objs.size) := by
    have := Heap.get?_push_size (s.heap.push PySem.W.emptyDict) (o := PySem.W.instObj C s.heap.objs.size) rfl
    rwa [Heap.size_push] at this
  have e3 : (s.heap.push PySem.W.emptyDict).Ns s.heap.objs.size (fun _ => none) := ⟨PySem.W.emptyDict, #[], _, e1, rfl, (fun e he => absurd he (by simp)), fun _ => rfl⟩
  have I1 := I.laid (a := s.heap.objs.size) (o := .own (s.heap.objs.size + 1)) (h' := s.heap.push PySem.W.emptyDict) (t' := s.toks) (fun b u q => Heap.get?_push_of_some _ q) (Nat.le_refl _) ⟨_, e1⟩
  refine I1.laid (a := s.heap.objs.size + 1) (o := .ins C s.heap.objs.size []) (t' := s.toks) (fun b u q => Heap.get?_push_of_some _ q) (Nat.le_of_eq (Heap.size_push _ _)) ?_
  have ne : s.heap.objs.size ≠ s.heap.objs.size + 1 := Nat.ne_of_lt (Nat.lt_succ_self _)
  refine ⟨by rw [upd_ne ne, upd_same], Nat.zero_le _, ne, e2, fun _ => none, (Heap.Ns1.of_empty e3).at fun o q => Heap.get?_push_of_some _ q, fun _ => True.intro, fun y hy => absurd rfl hy⟩
/-- e.f where nothing but the object is asked: through attributeBase (super) and the last hold -/
theorem attr_of {prog : Program} {w : World} {env : Env} {e : Expr} {f : Str} {pos : Pos} {s : Shared} {Q : Value → Shared → Prop} (hb : attributeBase e f env (eval e env) = eval e env)
    (h : wpAny (model prog w) A (eval e env) (fun o s₁ => wpAny (model prog w) A (getAttr o f true) Q E s₁) E s) : wpAny (model prog w) A (eval (.Attribute e f pos) env) Q E s :=
  Attribute_any_ h (by rw [arm_eval_Attribute, hb])
end
/-- e.f, an attribute of the instance -/
def tFld (K : PySem.W.Frag) (ta : TE) (f : Str) : TE := fun σ H Q => ta σ H fun x H1 => ∃ a C dx fs v, x = .ref a ∧ H1 a = some (.ins C dx fs) ∧ Cls K C ∧ NoAttr K C f ∧ fs.lookup f = some v ∧ Q v H1
/-- e.f = value -/
def sFld (K : PySem.W.Frag) (ta tv : TE) (f : Str) : TS := fun D σ H => tv σ H fun y H1 => ta σ H1 fun x H2 => ∃ a C dx fs, x = .ref a ∧ H2 a = some (.ins C dx fs) ∧ Cls K C ∧ NoAttr K C f ∧ fs.length < 1000 ∧
  D.nx σ (upd H2 a (.ins C dx (putF f y fs)))
section
variable {X : Cx} {o e value : Expr} {f : Str} {pos pos' tpos : Pos} {ta tv : TE}
theorem pe_fld (he : PE X e ta) (hb : attributeBase e f X.env (eval e X.env) = eval e X.env) : PE X (.Attribute e f pos) (tFld X.K ta f) := by
  intro pins s σ H Q I h
  refine attr_of hb (thn (he pins s σ H _ I h) fun u s1 ⟨x, H1, I1, rx, a, C, dx, fs, v, ex, ea, c, n, l, q⟩ => ?_)
  subst ex
  obtain rfl : u = Value.ref a := rx
  exact getattr_ok I1 ea c n l fun u' s2 I2 ru => ⟨v, H1, I2, ru, q⟩
theorem ps_fld (ha : PE X o ta) (hv : PE X value tv) (hs : swapsWith value (some (.Attribute o f pos')) pos.line X.env = pure false) : PS X (.Assign [.Attribute o f pos'] value pos) (sFld X.K ta tv f) := by
  intro pins s σ H D I h
  refine plainObj_wpAny_Assign_Attribute (thn (hv pins s σ H _ I h) fun u s1 ⟨y, H1, I1, ry, q⟩ => thn (ha pins s1 σ H1 _ I1 q) fun ov s2 ⟨x, H2, I2, rx, a, C, dx, fs, ex, ea, c, n, l, q2⟩ => ?_) hs
  subst ex
  obtain rfl : ov = Value.ref a := rx
  exact setattr_ok I2 ea c n l ry fun s3 I3 => ⟨σ, _, I3, q2⟩
end
end L2
namespace L2
open PySem PySem.Spec PyProof.Rows
structure Room (k : Nat) (A : Around) : Prop where
  hd : A.handled = none
  dp : A.depth + 3 * k + 5 < recursionLimit
  un : A.units + 16 * k + 200 < cLine
theorem Room.mono {j k : Nat} {A : Around} (r : Room k A) (h : j ≤ k) : Room j A := ⟨r.hd, by have := r.dp; omega, by have := r.un; omega⟩
theorem Room.deeper {k : Nat} {A : Around} (r : Room (k + 1) A) (env : Env) : Room k (A.deeper env) :=
  ⟨r.hd, by have := r.dp; show A.depth + 1 + 3 * k + 5 < _; omega, by have := r.un; show A.units + 3 + 16 * k + 200 < _; omega⟩
theorem Room.in1 {k : Nat} {A : Around} (r : Room (k + 1) A) : Room k A.in1 :=
  ⟨r.hd, by have := r.dp; show A.depth + 3 * k + 5 < _; omega, by have := r.un; show A.units + 1 + 16 * k + 200 < _; omega⟩
theorem make_depth {A : Around} {C : Addr} {us : List Value} {kw : List (Str × Value)} : (A.under (.builtin "type.__call__" ⟨.ref C :: us, kw⟩)).depth = A.depth + 1 := by
  first | rfl | simp [Around.under, Code.weight, Code.isCreation, Code.isGuard, Code.isCaller, Code.frames, Code.isFrame, guardIds]
theorem make_units {A : Around} {C : Addr} {us : List Value} {kw : List (Str × Value)} : (A.under (.builtin "type.__call__" ⟨.ref C :: us, kw⟩)).units = A.units + 1 := by
  first | rfl | simp [Around.under, Code.cUnits, Code.frames, Code.isFrame]
theorem Room.make {k : Nat} {A : Around} (r : Room (k + 1) A) (C : Addr) (us : List Value) (kw : List (Str × Value)) : Room k (A.under (.builtin "type.__call__" ⟨.ref C :: us, kw⟩)) :=
  ⟨r.hd, by have := r.dp; rw [make_depth]; omega, by have := r.un; rw [make_units]; omega⟩
theorem Room.depth {k : Nat} {A : Around} (r : Room k A) : A.depth < recursionLimit := by have := r.dp; omega
theorem Room.units {k : Nat} {A : Around} (r : Room k A) : A.units + 64 < cLine := by have := r.un; omega
def tNil : TA := fun _ H Q => Q [] H
def tCons (ta : TE) (tr : TA) : TA := fun σ H Q => ta σ H fun x H1 => tr σ H1 fun xs H2 => Q (x :: xs) H2
section
variable {X : Cx} {e : Expr} {es : List Expr} {te : TE} {t : TA} {pos : Pos}
theorem pa_nil : PA X [] tNil := fun _ _ _ _ H Q I h => Calls.spliced_nil ⟨[], H, I, .nil, h⟩
theorem pa_cons (ha : PE X e te) (hr : PA X es t) (hs : starEach (e :: es) X.env = (false, eval e X.env) :: starEach es X.env := by rfl) : PA X (e :: es) (tCons te t) := by
  intro pos pins s σ H Q I h
  rw [hs]
  show wpAny _ _ (spliced ((false, eval e X.env) :: backTo pos (starEach es X.env))) _ _ s
  refine Calls.spliced_cons (thn (ha pins s σ H _ I h) fun u s1 ⟨x, H1, I1, r1, q1⟩ => ?_)
  exact thn (hr pos pins s1 σ H1 _ I1 q1) fun us s2 ⟨xs, H2, I2, r2, q2⟩ => ⟨x :: xs, H2, I2, .cons r1 r2, q2⟩
/-- a tuple, a list of written items -/
def tTup (t : TA) : TE := fun σ H Q => t σ H fun xs H1 => xs.length ≤ sizeLine ∧ ∀ p, H1 p = none → Q (.ref p) (upd H1 p (.tup xs))
def tLst (t : TA) : TE := fun σ H Q => t σ H fun xs H1 => xs.length ≤ sizeLine ∧ ∀ p, H1 p = none → Q (.ref p) (upd H1 p (.lst xs))
theorem pe_tup {x1} (h : PA X es t) : PE X (.Tuple es x1 pos) (tTup t) := by
  intro pins s σ H Q I hq
  refine wpAny_Tuple_spliced (thn (h pos pins s σ H _ I hq) fun us s1 ⟨xs, H1, I1, r, z, q⟩ => ⟨by rw [← r.length]; exact z, ?_⟩)
  have hf : H1 s1.heap.objs.size = none := I1.hok.fresh (Nat.le_refl _)
  refine ⟨.ref s1.heap.objs.size, upd H1 s1.heap.objs.size (.tup xs), I1.laid (t' := s1.toks) (fun b u e => Heap.get?_push_of_some _ e) (Nat.le_refl _) ?_, rfl, q _ hf⟩
  exact ⟨z, us, r, ⟨_, Heap.get?_push_size _ rfl, rfl, _, rfl⟩⟩
theorem pe_lst (h : PA X es t) : PE X (.List es pos) (tLst t) := by
  intro pins s σ H Q I hq
  refine wpAny_List_spliced (thn (h pos pins s σ H _ I hq) fun us s1 ⟨xs, H1, I1, r, z, q⟩ => ⟨by rw [← r.length]; exact z, ?_⟩)
  have hf : H1 s1.heap.objs.size = none := I1.hok.fresh (Nat.le_refl _)
  refine ⟨.ref s1.heap.objs.size, upd H1 s1.heap.objs.size (.lst xs), I1.laid (t' := s1.toks) (fun b u e => Heap.get?_push_of_some _ e) (Nat.le_refl _) ?_, rfl, q _ hf⟩
  exact ⟨z, us, 0, r, Heap.get?_push_size _ rfl⟩
end
/-- a def's promise: the bound arguments in the parameters' order, the heap, the wanted end, the wanted exception -/
abbrev Sp := List V → Hp → VK → XK → Prop
/-- how an exception lies behind a call (file 08 gives it): the callers' frames, abstract heap and state ahead of the call, the wish, the exception, the state -/
abbrev CXT := List Env → Hp → Shared → XK → Value → Shared → Prop
/-- the state at a call -/
structure Env0 (P : Program) (w : World) (K : PySem.W.Frag) (mg : Str → Option Value) (base : Heap) (A : Around) (outer : List Env) (s : Shared) (H : Hp) : Prop where
  frames : A.frames = some outer
  mod : Mod K mg base
  bs : ∀ b o, base.get? b = some o → s.heap.get? b = some o ∧ H b = none
  bsz : base.objs.size ≤ s.heap.objs.size
  funs : s.heap.FunFrames base outer
  frf : ∀ b ∈ frs outer, H b = none
  hok : HOk P w H s.heap
  bare : AllBare s.gens
/-- a call's end -/
def CE (outer : List Env) (P : Program) (w : World) (H : Hp) (s : Shared) (Q : VK) (u : Value) (s' : Shared) : Prop :=
  ∃ v H', s'.os = s.os ∧ AllBare s'.gens ∧ Un (frs outer) [] H H' s.heap s'.heap ∧ HOk P w H' s'.heap ∧ RelV v u ∧ Q v H'
def CR (CX : CXT) (outer : List Env) (P : Program) (w : World) (H : Hp) (s : Shared) (Q : VK) (E : XK) (r : Result) (s' : Shared) : Prop :=
  match r with
  | .ok (.ret u) => CE outer P w H s Q u s'
  | .ok _ => False
  | .error e => CX outer H s E e s'
structure FnOk (P : Program) (w : World) (K : PySem.W.Frag) (mg : Str → Option Value) (base : Heap) (CX : CXT) (k : Nat) (f : Addr) (fd : FuncData) (ps : List Str) (sp : Sp) : Prop where
  len : ∀ vs H Q E, sp vs H Q E → vs.length = ps.length
  run : ∀ (A : Around) (outer : List Env) (s : Shared) (H : Hp) (args : Args) (us : List Value) (vs : List V) (Q : VK) (E : XK), Room k A → Env0 P w K mg base A outer s H → BindsTo s fd args (ps.zip us) → Vals vs us → sp vs H Q E →
    codeAny (model P w) A (.call (.ref f) args) (CR CX outer P w H s Q E) s
theorem FnOk.mono {P : Program} {w : World} {K : PySem.W.Frag} {mg : Str → Option Value} {base : Heap} {CX : CXT} {j k : Nat} {f : Addr} {fd : FuncData} {ps : List Str} {sp : Sp} (F : FnOk P w K mg base CX j f fd ps sp) (h : j ≤ k) :
    FnOk P w K mg base CX k f fd ps sp := ⟨F.len, fun A outer s H args us vs Q E hr => F.run A outer s H args us vs Q E (hr.mono h)⟩
/-- a weaker promise -/
theorem FnOk.imp {P : Program} {w : World} {K : PySem.W.Frag} {mg : Str → Option Value} {base : Heap} {CX : CXT} {k : Nat} {f : Addr} {fd : FuncData} {ps : List Str} {sp sp' : Sp} (F : FnOk P w K mg base CX k f fd ps sp)
    (h : ∀ vs H Q E, sp' vs H Q E → sp vs H Q E) : FnOk P w K mg base CX k f fd ps sp' :=
  ⟨fun vs H Q E q => F.len vs H Q E (h _ _ _ _ q), fun A outer s H args us vs Q E hr he hb hv hs => F.run A outer s H args us vs Q E hr he hb hv (h _ _ _ _ hs)⟩
theorem Env0.make {P : Program} {w : World} {K : PySem.W.Frag} {mg : Str → Option Value} {base : Heap} {A : Around} {outer : List Env} {s : Shared} {H : Hp} (e : Env0 P w K mg base A outer s H) (C : Addr) (us : List Value) (kw : List (Str × Value)) :
    Env0 P w K mg base (A.under (.builtin "type.__call__" ⟨.ref C :: us, kw⟩)) outer s H := ⟨by first | exact e.frames | (simpa [Around.under, Code.envs, Code.isFrame, pushEnvs] using e.frames), e.mod, e.bs, e.bsz, e.funs, e.frf, e.hok, e.bare⟩
theorem Env0.in1 {P : Program} {w : World} {K : PySem.W.Frag} {mg : Str → Option Value} {base : Heap} {A : Around} {outer : List Env} {s : Shared} {H : Hp} (e : Env0 P w K mg base A outer s H) :
    Env0 P w K mg base A.in1 outer s H := ⟨e.frames, e.mod, e.bs, e.bsz, e.funs, e.frf, e.hok, e.bare⟩
section
variable {X : Cx} {pins : List (Addr × Obj)} {σ : St} {H : Hp} {s s' : Shared}
/-- from a body: what a callee wants -/
theorem Inv.env0 (I : Inv X pins σ H s) : Env0 X.prog X.w X.K X.mg X.base X.A X.stack s H :=
  ⟨I.ok.frames, I.ok.mod, I.bs, Nat.le_trans I.ok.bsz I.sz, I.stack, I.stkFree, I.hok, I.bare⟩
/-- behind a call -/
theorem Inv.after {Q : VK} {u : Value} (I : Inv X pins σ H s) (h : CE X.stack X.prog X.w H s Q u s') : EP X pins σ Q u s' := by
  obtain ⟨v, H', os, bare, un, hok, r, q⟩ := h
  obtain ⟨hh, g, d, t, os'⟩ := s'
  obtain rfl : os' = s.os := os
  exact ⟨v, H', I.call (h' := hh) (g' := g) (d' := d) (t' := t) (ch := []) un hok bare (fun b z => absurd z (by simp)), r, q⟩
end
/-- f(..): the written arguments, then the defaults dvs; E: what is wanted of an exception -/
def tCall (sp : Sp) (dvs : List V) (E : XK) (t : TA) : TE := fun σ H Q => t σ H fun vs H1 => sp (vs ++ dvs) H1 Q E
/-- o.m(..) of an instance of the class at C -/
def tMeth (C : Addr) (m : Str) (sp : Sp) (dvs : List V) (E : XK) (ta : TE) (t : TA) : TE := fun σ H Q => ta σ H fun x H1 => ∃ a dx fs, x = .ref a ∧ H1 a = some (.ins C dx fs) ∧ fs.lookup m = none ∧
  t σ H1 fun vs H2 => sp (x :: (vs ++ dvs)) H2 Q E
/-- C(..): a new instance and its dict, then __init__ -/
def tMake (C : Addr) (sp : Sp) (dvs : List V) (E : XK) (t : TA) : TE := fun σ H Q => t σ H fun vs H1 => ∀ x dx, H1 x = none → H1 dx = none → dx ≠ x →
  sp (.ref x :: (vs ++ dvs)) (upd (upd H1 dx (.own x)) x (.ins C dx [])) (fun v H2 => v = .non ∧ Q (.ref x) H2) E
/-- how the parameters are bound: us the positional arguments, kw the keywords' values by name, ds the defaults that fill up -/
def Binds (K : PySem.W.Frag) (fd : FuncData) (ps : List Str) (ds : List Value) : Prop :=
  ∀ (s : Shared) (us : List Value), K.In s.heap → (us ++ ds).length = ps.length → BindsTo s fd ⟨us, []⟩ (ps.zip (us ++ ds))
/-- every parameter is given -/
theorem Binds.all {K : PySem.W.Frag} {fd : FuncData} {ps : List Str} (h : ∀ us : List Value, us.length = ps.length → bindArgs fd ⟨us, []⟩ = pure (ps.zip us)) : Binds K fd ps [] := fun s us _ hl => by
  rw [List.append_nil] at hl ⊢
  exact .of_eq (h us hl)
/-- an exception of a callee reaches what this body wants of exceptions -/
def Passes (CX : CXT) (X : Cx) (E : XK) : Prop := ∀ (pins : List (Addr × Obj)) (σ : St) (H : Hp) (s : Shared) (e : Value) (s' : Shared), Inv X pins σ H s → CX X.stack H s E e s' → X.xe e s'
section
variable {X : Cx} {CX : CXT} {k : Nat} {f C : Addr} {fd : FuncData} {ps : List Str} {sp : Sp} {dvs : List V} {ds : List Value} {E : XK} {x m : Str} {p pos apos : Pos} {e o : Expr} {es : List Expr} {ta : TE} {t : TA}
/-- the callee runs -/
theorem run_fn {pins : List (Addr × Obj)} {σ : St} {H : Hp} {s : Shared} {Q : VK} {us : List Value} {vs : List V} (F : FnOk X.prog X.w X.K X.mg X.base CX k f fd ps sp) (hr : Room k X.A) (hb : Binds X.K fd ps ds) (hd : Vals dvs ds) (hx : Passes CX X E)
    (I : Inv X pins σ H s) (r : Vals vs us) (h : sp (vs ++ dvs) H Q E) : wpAny (model X.prog X.w) X.A (call (.ref f) us) (EP X pins σ Q) X.xe s := by
  have r2 : Vals (vs ++ dvs) (us ++ ds) := r.append hd
  have hl : (us ++ ds).length = ps.length := by rw [← r2.length]; exact F.len _ _ _ _ h
  refine wpAny_call (codeAny_mono (F.run X.A X.stack s H ⟨us, []⟩ (us ++ ds) (vs ++ dvs) Q E hr I.env0 (hb s us I.kIn hl) r2 h) fun r s' hq => ?_)
  cases r with
  | error e => exact hx pins σ H s e s' I hq
  | ok fl =>
    cases fl with
    | ret u => exact I.after hq
    | next => exact False.elim hq
    | brk => exact False.elim hq
    | cont => exact False.elim hq
theorem pe_call (F : FnOk X.prog X.w X.K X.mg X.base CX k f fd ps sp) (hr : Room k X.A) (hg : Gl X x) (hm : X.mg x = some (.ref f)) (hk : PySem.W.keepIn X.K (.ref f) = true) (hb : Binds X.K fd ps ds) (hd : Vals dvs ds) (hx : Passes CX X E)
    (ha : PA X (e :: es) t) (hdb : (x == ("__debug__" : Str)) = false := by decide) (he : starEach (e :: es) X.env = (false, eval e X.env) :: starEach es X.env := by rfl) (hpl : (backTo pos (starEach es X.env)).any (·.1) = false := by rfl) :
    PE X (.Call (.Name x p) (e :: es) [] pos) (tCall sp dvs E t) := by
  intro pins s σ H Q I h
  refine wpAny_Call_Name_kw (ld_glob I hg hm ?_ hdb)
  refine PySem.W.callWith_K (h₀ := X.base) I.ok.mod.kin hk (thn (ha pos pins s σ H _ I h) fun us s1 ⟨vs, H1, I1, r, q⟩ => ⟨I1.kIn, ?_⟩) he hpl
  exact run_fn F hr hb hd hx I1 r q
/-- o.m(e, ..) -/
theorem pe_meth {pl : Sem Bool} (he : PE X o ta) (c : Cls X.K C) (hm : Meth X.K C m f) (F : FnOk X.prog X.w X.K X.mg X.base CX k f fd ps sp) (hr : Room k X.A) (hb : Binds X.K fd ps ds) (hd : Vals dvs ds) (hx : Passes CX X E) (ha : PA X (e :: es) t)
    (hst : starEach (e :: es) X.env = (false, eval e X.env) :: starEach es X.env := by rfl) (hpl : (backTo pos (starEach es X.env)).any (·.1) = false := by rfl)
    (ht : eval (.Call (.Attribute o m apos) (e :: es) [] pos) X.env = (do
      let ov ← eval o X.env
      standAt apos.atName
      let (f, first) ← holding [ov] (getMethod ov m pl)
      callWith pos f first (backTo pos (starEach (e :: es) X.env)) (backToKw pos (keywordEach [] X.env))) := by rfl) :
    PE X (.Call (.Attribute o m apos) (e :: es) [] pos) (tMeth C m sp dvs E ta t) := by
  intro pins s σ H Q I h
  refine PySem.W.methodCall_KW (pl := pl) (thn (he pins s σ H _ I h) fun u s1 ⟨x, H1, I1, rx, a, dx, fs, ex, ea, l, q⟩ => ?_) ht
  subst ex
  obtain rfl : u = Value.ref a := rx
  refine getmeth_ok I1 ea c hm l ?_
  refine PySem.W.callWith_K (first := [.ref a]) (h₀ := X.base) I.ok.mod.kin hm.kp (thn (ha pos pins s1 σ H1 _ I1 q) fun us s2 ⟨vs, H2, I2, r, q2⟩ => ⟨I2.kIn, ?_⟩) hst hpl
  exact run_fn (us := .ref a :: us) (vs := .ref a :: vs) F hr hb hd hx I2 (.cons rfl r) q2
/-- o.m() -/
theorem pe_meth0 {pl : Sem Bool} (he : PE X o ta) (c : Cls X.K C) (hm : Meth X.K C m f) (F : FnOk X.prog X.w X.K X.mg X.base CX k f fd ps sp) (hr : Room k X.A) (hb : Binds X.K fd ps ds) (hd : Vals dvs ds) (hx : Passes CX X E)
    (ht : eval (.Call (.Attribute o m apos) [] [] pos) X.env = (do
      let ov ← eval o X.env
      standAt apos.atName
      let (f, first) ← holding [ov] (getMethod ov m pl)
      callWith pos f first (backTo pos (starEach [] X.env)) (backToKw pos (keywordEach [] X.env))) := by rfl) :
    PE X (.Call (.Attribute o m apos) [] [] pos) (tMeth C m sp dvs E ta tNil) := by
  intro pins s σ H Q I h
  refine PySem.W.methodCall_KW (pl := pl) (thn (he pins s σ H _ I h) fun u s1 ⟨x, H1, I1, rx, a, dx, fs, ex, ea, l, q⟩ => ?_) ht
  subst ex
  obtain rfl : u = Value.ref a := rx
  refine getmeth_ok I1 ea c hm l ?_
  exact PySem.W.callWith_K0 (first := [.ref a]) I1.kIn hm.kp (run_fn (us := [.ref a]) (vs := [.ref a]) F hr hb hd hx I1 (.cons rfl .nil) q)
/-- what a class must have to be made -/
structure Mk (K : PySem.W.Frag) (C f : Addr) : Prop where
  makes : PySem.W.makesIn K C = true
  init : PySem.W.findIn K (.ref C) "__init__" = some (some (.ref f))
  fn : PySem.W.isFn K (.ref f) = true
  kp : PySem.W.keepIn K (.ref C) = true
theorem run_make {pins : List (Addr × Obj)} {σ : St} {H : Hp} {s : Shared} {Q : VK} {us : List Value} {vs : List V} (M : Mk X.K C f) (F : FnOk X.prog X.w X.K X.mg X.base CX k f fd ps sp) (hr : Room (k + 1) X.A) (hb : Binds X.K fd ps ds) (hd : Vals dvs ds)
    (hx : Passes CX X E) (I : Inv X pins σ H s) (r : Vals vs us)
    (h : ∀ x dx, H x = none → H dx = none → dx ≠ x → sp (.ref x :: (vs ++ dvs)) (upd (upd H dx (.own x)) x (.ins C dx [])) (fun v H2 => v = .non ∧ Q (.ref x) H2) E) :
    wpAny (model X.prog X.w) X.A (call (.ref C) us) (EP X pins σ Q) X.xe s := by
  have hq := h (s.heap.objs.size + 1) s.heap.objs.size (I.hok.fresh (Nat.le_succ _)) (I.hok.fresh (Nat.le_refl _)) (Nat.ne_of_lt (Nat.lt_succ_self _))
  have I2 := Inv.made (C := C) I
  have r2 : Vals (V.ref (s.heap.objs.size + 1) :: (vs ++ dvs)) (Value.ref (s.heap.objs.size + 1) :: (us ++ ds)) := .cons rfl (r.append hd)
  have hl : (Value.ref (s.heap.objs.size + 1) :: us ++ ds).length = ps.length := by
    have e := r2.length
    rw [F.len _ _ _ _ hq] at e
    exact e.symm
  refine wpAny_call (make_map (f := f) I.kIn M.makes M.init (beq_iff_eq.mp M.fn) (codeAny_mono (F.run _ X.stack _ _ ⟨Value.ref (s.heap.objs.size + 1) :: us, []⟩ (Value.ref (s.heap.objs.size + 1) :: (us ++ ds)) _ _ E (hr.make C us [])
    (I2.env0.make C us []) (hb _ (Value.ref (s.heap.objs.size + 1) :: us) I2.kIn hl) r2 hq) fun r s' hq' => ?_))
  cases r with
  | error e => exact hx pins σ _ _ e s' I2 hq'
  | ok fl =>
    cases fl with
    | ret u =>
      obtain ⟨v, H', I3, rv, ev, q3⟩ := I2.after hq'
      subst ev
      exact ⟨rv, ⟨V.ref (s.heap.objs.size + 1), H', I3, rfl, q3⟩⟩
    | next => exact False.elim hq'
    | brk => exact False.elim hq'
    | cont => exact False.elim hq'
theorem pe_make (M : Mk X.K C f) (F : FnOk X.prog X.w X.K X.mg X.base CX k f fd ps sp) (hr : Room (k + 1) X.A) (hg : Gl X x) (hm : X.mg x = some (.ref C)) (hb : Binds X.K fd ps ds) (hd : Vals dvs ds) (hx : Passes CX X E)
    (ha : PA X (e :: es) t) (hdb : (x == ("__debug__" : Str)) = false := by decide) (he : starEach (e :: es) X.env = (false, eval e X.env) :: starEach es X.env := by rfl) (hpl : (backTo pos (starEach es X.env)).any (·.1) = false := by rfl) :
    PE X (.Call (.Name x p) (e :: es) [] pos) (tMake C sp dvs E t) := by
  intro pins s σ H Q I h
  refine wpAny_Call_Name_kw (ld_glob I hg hm ?_ hdb)
  refine PySem.W.callWith_K (h₀ := X.base) I.ok.mod.kin M.kp (thn (ha pos pins s σ H _ I h) fun us s1 ⟨vs, H1, I1, r, q⟩ => ⟨I1.kIn, ?_⟩) he hpl
  exact run_make M F hr hb hd hx I1 r q
end
/-- names: the parameters first -/
structure FnScope (N P : List Str) (sc : Scope) : Prop where
  kind : sc.kind = .function
  co : sc.isCoroutine = false
  gen : sc.isGenerator = false
  nd : N.Nodup
  pre : N.take P.length = P
  par : ∀ x ∈ P, sc.names.lookup x = some .local ∨ sc.names.lookup x = some .cell
  nofree : ∀ y ∈ sc.names, y.2 ≠ .free
theorem bindL_out {kindOf : Str → Option NameKind} {x : Str} : ∀ {binds : List (Str × Value)} {m : Str → Option Value}, (∀ v, (x, v) ∉ binds) → bindL kindOf binds m x = m x
  | [], _, _ => rfl
  | (n, v) :: r, m, h => by
    unfold bindL
    rw [bindL_out fun w hw => h w (List.mem_cons_of_mem _ hw)]
    split
    · have : x ≠ n := by rintro rfl; exact h v List.mem_cons_self
      simp [this]
    · rfl
theorem bindC_out {kindOf : Str → Option NameKind} {x : Str} : ∀ {binds : List (Str × Value)} {m : Str → Option Value}, (∀ v, (x, v) ∉ binds) → bindC kindOf binds m x = m x
  | [], _, _ => rfl
  | (n, v) :: r, m, h => by
    unfold bindC
    rw [bindC_out fun w hw => h w (List.mem_cons_of_mem _ hw)]
    split
    · rfl
    · have : x ≠ n := by rintro rfl; exact h v List.mem_cons_self
      simp [this]
theorem bindL_get {kindOf : Str → Option NameKind} {x : Str} {v : Value} : ∀ {P : List Str} {vs : List Value} {i : Nat} {m : Str → Option Value}, P.Nodup → P[i]? = some x → vs[i]? = some v → kindOf x = some .local →
    bindL kindOf (P.zip vs) m x = some v
  | [], _, _, _, _, h, _, _ => by simp at h
  | _ :: _, [], _, _, _, _, h, _ => by simp at h
  | p :: P, w :: vs, 0, m, nd, h1, h2, hk => by
    simp at h1 h2; subst h1; subst h2
    show bindL kindOf ((p, w) :: P.zip vs) m p = _
    unfold bindL
    rw [bindL_out fun v hv => (List.nodup_cons.mp nd).1 (List.of_mem_zip hv).1, if_pos hk]
    simp
  | p :: P, w :: vs, i + 1, m, nd, h1, h2, hk => by
    show bindL kindOf ((p, w) :: P.zip vs) m x = _
    unfold bindL
    exact bindL_get (i := i) (List.nodup_cons.mp nd).2 (by simpa using h1) (by simpa using h2) hk
theorem bindC_get {kindOf : Str → Option NameKind} {x : Str} {v : Value} : ∀ {P : List Str} {vs : List Value} {i : Nat} {m : Str → Option Value}, P.Nodup → P[i]? = some x → vs[i]? = some v → kindOf x ≠ some .local →
    bindC kindOf (P.zip vs) m x = some v
  | [], _, _, _, _, h, _, _ => by simp at h
  | _ :: _, [], _, _, _, _, h, _ => by simp at h
  | p :: P, w :: vs, 0, m, nd, h1, h2, hk => by
    simp at h1 h2; subst h1; subst h2
    show bindC kindOf ((p, w) :: P.zip vs) m p = _
    unfold bindC
    rw [bindC_out fun v hv => (List.nodup_cons.mp nd).1 (List.of_mem_zip hv).1, if_neg hk]
    simp
  | p :: P, w :: vs, i + 1, m, nd, h1, h2, hk => by
    show bindC kindOf ((p, w) :: P.zip vs) m x = _
    unfold bindC
    exact bindC_get (i := i) (List.nodup_cons.mp nd).2 (by simpa using h1) (by simpa using h2) hk
/-- the names' values at the entry -/
def start (N : List Str) (vs : List V) : St := vs.map some ++ List.replicate (N.length - vs.length) none
/-- the context of a def's body, at its entry; an exception leaves the frame, then lies as CX says -/
def cxOf (CX : CXT) (P : Program) (w : World) (K : PySem.W.Frag) (mg : Str → Option Value) (base : Heap) (N : List Str) (qual : Str) (scope : Scope) (f : Addr) (cd : Value) (A : Around) (outer : List Env) (s : Shared) (H : Hp) (E : XK) : Cx where
  prog := P
  w := w
  K := K
  mg := mg
  base := base
  A := A.deeper (envOfC qual scope s.heap.objs.size f cd)
  N := N
  s_0 := s
  H_0 := H
  env := envOfC qual scope s.heap.objs.size f cd
  outer := outer
  stack := envOfC qual scope s.heap.objs.size f cd :: outer
  ex := []
  calm := true
  fn := fun _ => true
  pn := []
  xe := fun e s' => wpAny (model P w) (A.deeper (envOfC qual scope s.heap.objs.size f cd)) (leaving (envOfC qual scope s.heap.objs.size f cd) e) (fun _ s'' => CX outer H s E e s'') (fun e' s'' => CX outer H s E e' s'') s'
theorem cell_has {sc : Scope} {n : Nat} {x : Str} (h : sc.names.lookup x = some .cell) : ∃ c, (cellsFrom n sc.names []).lookup x = some c := by
  have q := PySem.W.cellsFrom_some sc.names n [] (.inl h)
  exact Option.isSome_iff_exists.mp q
theorem inv_start {CX : CXT} {P : Program} {w : World} {K : PySem.W.Frag} {mg : Str → Option Value} {base : Heap} {N ps : List Str} {qual : Str} {scope : Scope} {f : Addr} {cd : Value} {A : Around} {outer : List Env} {s s1 : Shared} {H : Hp} {E : XK} {us : List Value} {vs : List V}
    (S : FnScope N ps scope) (hd : A.handled = none) (e0 : Env0 P w K mg base A outer s H) (hl : vs.length = ps.length) (r : Vals vs us)
    (x : InCallC s s.heap.objs.size (bindL (envOfC qual scope s.heap.objs.size f cd).kindOf (ps.zip us) fun _ => none) (cellsFrom (s.heap.objs.size + 1) scope.names []) (bindC (envOfC qual scope s.heap.objs.size f cd).kindOf (ps.zip us) fun _ => none) s1) :
    Inv (cxOf CX P w K mg base N qual scope f cd A outer s H E) [] (start N vs) H s1 := by
  have hpl : ps.length ≤ N.length := by have := congrArg List.length S.pre; rw [List.length_take] at this; omega
  obtain ⟨h1, tk, rfl, hk⟩ := x.done
  have noA : ∀ b : Addr, b ∉ (cxOf CX P w K mg base N qual scope f cd A outer s H E).ex := fun b z => absurd (show b ∈ ([] : List Addr) from z) (by simp)
  refine ⟨⟨e0.mod, S.kind, rfl, rfl, Nat.le_refl _, fun y z c h1 h2 => ?_, fun y hy => ?_, fun y c _ h => ?_, fun _ => hd, Around.frames_deeper e0.frames, .inr ⟨rfl, rfl⟩, fun b z => absurd z (noA b), e0.bs, e0.bsz, fun b _ _ => noA b, fun b z => absurd z (noA b), e0.funs, e0.frf⟩,
    rfl, e0.bare, Un.kept hk, ⟨_, x.toInCall.ns, fun i y v h1 h2 h3 => ?_⟩, fun y c h => ⟨_, x.cell y c h⟩, e0.hok.fresh (Nat.le_refl _), fun y c h => ?_, fun p hp => absurd (show p ∈ ([] : List (Addr × Obj)) from hp) (by simp), e0.hok.kept hk, ?_⟩
  · exact name_of_addr x.apart (PySem.mem_of_lookup h1) (PySem.mem_of_lookup h2)
  · have hy : scope.names.lookup y = some .cell ∨ scope.names.lookup y = some .free := hy
    rcases hy with hy | hy
    · exact cell_has hy
    · exact absurd rfl (S.nofree _ (PySem.mem_of_lookup hy))
  · exact Nat.le_of_lt (x.above y c (PySem.mem_of_lookup h))
  · have hi : i < vs.length := by
      unfold start at h2
      by_cases hi : i < vs.length
      · exact hi
      · rw [List.getElem?_append_right (by simpa using hi)] at h2
        rw [List.getElem?_replicate] at h2
        split at h2 <;> cases h2
    have ha : vs[i]? = some v := by
      unfold start at h2
      rw [List.getElem?_append_left (by simpa using hi), List.getElem?_map] at h2
      cases e : vs[i]? with
      | none => rw [e] at h2; cases h2
      | some a => rw [e] at h2; cases h2; rfl
    obtain ⟨u, hu, rv⟩ := r.get ha
    have hp : ps[i]? = some y := by
      rw [← S.pre, List.getElem?_take_of_lt (by omega)]; exact h1
    have ndP : ps.Nodup := by rw [← S.pre]; exact S.nd.sublist (List.take_sublist _ _)
    refine ⟨u, rv, ?_⟩
    rcases S.par y (List.mem_of_getElem? hp) with k | k
    · exact .inl ⟨k, bindL_get ndP hp hu k⟩
    · obtain ⟨c, e⟩ := cell_has (n := s.heap.objs.size + 1) k
      refine .inr ⟨.inl k, c, e, ?_⟩
      have q := x.cell y c e
      rw [bindC_get ndP hp hu (by show scope.names.lookup y ≠ _; rw [k]; decide)] at q
      exact q
  · exact e0.hok.fresh (Nat.le_of_lt (x.above y c (PySem.mem_of_lookup h)))
  · unfold start
    show _ = N.length
    rw [List.length_append, List.length_map, List.length_replicate]
    omega
/-- THE RULE: a def (or a method) of the text, by its body. The body's reading t is chosen for each entry; it is run at the parameters' values -/
theorem fn_of {CX : CXT} {P : Program} {w : World} {K : PySem.W.Frag} {mg : Str → Option Value} {base : Heap} {k : Nat} {f : Addr} {name qual : Str} {params : Arguments} {body : List Stmt} {scope : Scope} {dV kV doc pm cdv ct oc : Value} {an od : Option Addr}
    {osl : Array (Option Value)} {N ps : List Str} {sp : Sp} (lk : K.lookup f = some ⟨oc, od, .func (PySem.W.fnOf name qual params body scope dV kV doc pm an cdv ct), osl⟩) (hcd : PySem.W.codeIn K cdv qual = true) (S : FnScope N ps scope)
    (len : ∀ vs H Q E, sp vs H Q E → vs.length = ps.length)
    (hbody : ∀ (A : Around) (outer : List Env) (s : Shared) (H : Hp) (vs : List V) (Q : VK) (E : XK), Room k (A.deeper (envOfC qual scope s.heap.objs.size f cdv)) → sp vs H Q E →
      ∃ t, PSs (cxOf CX P w K mg base N qual scope f cdv A outer s H E) body t ∧ t { nx := fun _ H' => Q .non H', rt := Q } (start N vs) H) :
    FnOk P w K mg base CX (k + 1) f (PySem.W.fnOf name qual params body scope dV kV doc pm an cdv ct) ps sp := by
  refine ⟨len, fun A outer s H args us vs Q E hr e0 hb r hsp => ?_⟩
  have hl := len _ _ _ _ hsp
  have KX : K.In s.heap := e0.mod.kin.keeps fun b o e => (e0.bs b o e).1
  have lim : s.heap.NoLimit := e0.mod.nolimit.keeps fun b o e => (e0.bs b o e).1
  have hkind : ∀ y ∈ ps.zip us, scope.names.lookup y.1 = some .local ∨ (scope.names.lookup y.1 = some .cell ∧ ((cellsFrom (s.heap.objs.size + 1) scope.names []).lookup y.1).isSome = true) := fun ⟨n, v⟩ hy => by
    rcases S.par n (List.of_mem_zip hy).1 with q | q
    · exact .inl q
    · exact .inr ⟨q, PySem.W.cellsFrom_some _ _ _ (.inl q)⟩
  refine codeAny_call_function hr.depth (KX _ _ lk) rfl S.co S.gen rfl (PySem.W.codeRec_of KX hcd) (hb _ _ _ _ ?_)
  refine wpAny_newFunctionEnv_cells S.kind hkind fun env he s1 x => ?_
  subst he
  refine ⟨lim.keeps x.toInCall.keep, codeAny_func ?_⟩
  obtain ⟨t, ht, hq⟩ := hbody A outer s H vs Q E (hr.deeper _) hsp
  have I : Inv (cxOf CX P w K mg base N qual scope f cdv A outer s H E) [] (start N vs) H s1 := inv_start S hr.hd e0 hl r x
  refine wpAny_mono (ht [] s1 (start N vs) H _ I hq) (fun fl s' hs => ?_) fun e s' hs => hs
  have fin : ∀ {σ' : St} {H' : Hp} {v : V} {u : Value}, Inv (cxOf CX P w K mg base N qual scope f cdv A outer s H E) [] σ' H' s' → RelV v u → Q v H' → CE outer P w H s Q u s' :=
    fun {σ' H' v u} J rv q => ⟨v, H', J.os, J.bare, J.base, J.hok, rv, q⟩
  cases fl with
  | ret u =>
    obtain ⟨v, σ', H', J, rv, q⟩ := hs
    exact fin J rv q
  | next =>
    obtain ⟨σ', H', J, q⟩ := hs
    exact fin (v := V.non) (u := Value.none) J rfl q
  | brk =>
    obtain ⟨_, _, _, q⟩ := hs
    exact False.elim q
  | cont =>
    obtain ⟨_, _, _, q⟩ := hs
    exact False.elim q
end L2
namespace L2
open PySem PySem.Spec PyProof.Rows
section
variable {X : Cx} {x : Str} {p pos : Pos} {e : Expr} {es : List Expr} {t : TA} {id T : String} {r : List V → Hp → VK → Prop}
def tCB (r : List V → Hp → VK → Prop) (t : TA) : TE := fun σ H Q => t σ H fun vs H1 => r vs H1 Q
/-- f(e, ..), f a built-in function -/
theorem pe_callB (hc : CallR X (.builtin id) r) (hg : Gl X x) (hm : X.mg x = none) (hv : bootBuiltins x = some (.builtin id)) (ha : PA X (e :: es) t) (hn : x ≠ "__name__" := by decide) (hdb : (x == ("__debug__" : Str)) = false := by decide)
    (he : starEach (e :: es) X.env = (false, eval e X.env) :: starEach es X.env := by rfl) (hpl : (backTo pos (starEach es X.env)).any (·.1) = false := by rfl) : PE X (.Call (.Name x p) (e :: es) [] pos) (tCB r t) := by
  intro pins s σ H Q I h
  refine wpAny_Call_Name_kw (ld_blt I hg hm hv ?_ hn hdb)
  exact PyProof.Rows.callWith_builtin1 (thn (ha pos pins s σ H _ I h) fun us s1 ⟨vs, H1, I1, r1, q1⟩ => hc pins s1 σ H1 vs us Q I1 r1 q1) he hpl
/-- T(e, ..), T a built-in type -/
theorem pe_callTy (hc : CallR X (.type T) r) (hg : Gl X x) (hm : X.mg x = none) (hv : bootBuiltins x = some (.type T)) (ha : PA X (e :: es) t) (hn : x ≠ "__name__" := by decide) (hdb : (x == ("__debug__" : Str)) = false := by decide)
    (he : starEach (e :: es) X.env = (false, eval e X.env) :: starEach es X.env := by rfl) (hpl : (backTo pos (starEach es X.env)).any (·.1) = false := by rfl) : PE X (.Call (.Name x p) (e :: es) [] pos) (tCB r t) := by
  intro pins s σ H Q I h
  refine wpAny_Call_Name_kw (ld_blt I hg hm hv ?_ hn hdb)
  exact PyProof.Rows.callWith_type1 (thn (ha pos pins s σ H _ I h) fun us s1 ⟨vs, H1, I1, r1, q1⟩ => hc pins s1 σ H1 vs us Q I1 r1 q1) he hpl
end
end L2
namespace HT
open PySem PyProof.Rows
section
variable {prog : Program} {w : World} {A : Around} {E : Value → Shared → Prop} {s : Shared}
/-- a slice's bound as a place among n (d where it is left out) -/
def sIx (n d : Nat) : Option Int → Nat
  | none => d
  | some v => if v < 0 then (v + (n : Int)).toNat else min v.toNat n
theorem sIx_nat (n d k : Nat) : sIx n d (some (k : Int)) = min k n := by
  show (if (k : Int) < 0 then ((k : Int) + (n : Int)).toNat else min (k : Int).toNat n) = min k n
  rw [if_neg (by omega), Int.toNat_natCast]
end
end HT
namespace L2
open PySem PySem.Spec PyProof.Rows
abbrev TO := St → Hp → (Option Int → Hp → Prop) → Prop
/-- a slice's part (left out, or an int) -/
def PO (X : Cx) (e : Option Expr) (t : TO) : Prop :=
  ∀ (pins : List (Addr × Obj)) (s : Shared) (σ : St) (H : Hp) (Q : Option Int → Hp → Prop), Inv X pins σ H s → t σ H Q →
    wpAny (model X.prog X.w) X.A (evalPart e X.env) (fun u s' => ∃ o H', Inv X pins σ H' s' ∧ IsPart u o ∧ Q o H') X.xe s
def tPart (t : TE) : TO := fun σ H Q => t σ H fun x H1 => ∃ i, x = .int i ∧ Q (some i) H1
section
variable {X : Cx} {e : Expr} {te : TE} {lo hi : Option Expr} {tl th : TO} {pos p2 : Pos}
theorem po_some (h : PE X e te) : PO X (some e) (tPart te) := by
  intro pins s σ H Q I hw
  rw [evalPart_some]
  refine thn (h pins s σ H _ I hw) fun u s1 ⟨x, H1, I1, r1, q1⟩ => ?_
  obtain ⟨i, rfl, q⟩ := q1
  obtain ⟨t, rfl⟩ := r1
  exact ⟨some i, H1, I1, .int i t, q⟩
/-- what a slice of a value is, by values: the slice object stands at sl -/
def SlR (X : Cx) (r : V → Option Int → Option Int → Hp → VK → Prop) : Prop :=
  ∀ (pins : List (Addr × Obj)) (s : Shared) (σ : St) (H : Hp) (x : V) (v vl vu : Value) (lo hi : Option Int) (sl : Addr) (Q : VK), Inv X pins σ H s → RelV x v → s.heap.IsSliceOf sl vl vu .none → IsPart vl lo → IsPart vu hi → r x lo hi H Q →
    ∃ T id, typeLookup (.type T) "__getitem__" = pure (some (.builtin id)) ∧ s.TypeIs v T ∧ wpAny (model X.prog X.w) X.A (getItem v (.ref sl)) (EP X pins σ Q) X.xe s
theorem SlR.or {r r' : V → Option Int → Option Int → Hp → VK → Prop} (h : SlR X r) (h' : SlR X r') : SlR X (fun x lo hi H Q => r x lo hi H Q ∨ r' x lo hi H Q) := by
  intro pins s σ H x v vl vu lo hi sl Q I rx hs pl pu q
  rcases q with q | q
  · exact h pins s σ H x v vl vu lo hi sl Q I rx hs pl pu q
  · exact h' pins s σ H x v vl vu lo hi sl Q I rx hs pl pu q
def tSl (r : V → Option Int → Option Int → Hp → VK → Prop) (te : TE) (tl th : TO) : TE := fun σ H Q => te σ H fun x H1 => tl σ H1 fun l H2 => th σ H2 fun u H3 => r x l u H3 Q
/-- a[lo:hi], any a -/
theorem pe_slice {r : V → Option Int → Option Int → Hp → VK → Prop} (hr : SlR X r) (he : PE X e te) (hl : PO X lo tl) (hu : PO X hi th) : PE X (.Subscript e (.Slice lo hi none p2) pos) (tSl r te tl th) := by
  intro pins s σ H Q I h
  refine Subscript_ (thn (he pins s σ H _ I h) fun v s1 ⟨x, H1, I1, r1, q1⟩ => ?_)
  refine wpAny_Slice (thn (hl pins s1 σ H1 _ I1 q1) fun vl s2 ⟨l, H2, I2, pl, q2⟩ => thn (hu pins s2 σ H2 _ I2 q2) fun vu s3 ⟨u, H3, I3, pu, q3⟩ => ?_)
  rw [evalPart_none]
  refine wpAny_pure ?_
  have I4 : Inv X pins σ H3 { s3 with heap := s3.heap.push { cls := .type "slice", data := .fields #[vl, vu, .none] } } := I3.kept (t' := s3.toks) fun b ob q => Heap.get?_push_of_some _ q
  obtain ⟨T, id, hT, ht, hg⟩ := hr pins { s3 with heap := s3.heap.push { cls := .type "slice", data := .fields #[vl, vu, .none] } } σ H3 x v vl vu l u s3.heap.objs.size Q I4 r1 (Heap.IsSliceOf.new ..) pl pu q3
  show wpAny (model X.prog X.w) X.A (subscriptTail e (.Slice lo hi none p2) v (.ref s3.heap.objs.size)) (EP X pins σ Q) X.xe { s3 with heap := s3.heap.push { cls := .type "slice", data := .fields #[vl, vu, .none] } }
  exact tail_any (ops := [.ref s3.heap.objs.size, v]) ht hT hg (by with_unfolding_all rfl)
/-- the items of xs[lo:hi] -/
def cutV (xs : List V) (lo hi : Option Int) : List V := (xs.drop (HT.sIx xs.length 0 lo)).take (HT.sIx xs.length xs.length hi - HT.sIx xs.length 0 lo)
theorem cutV_length (xs : List V) (lo hi : Option Int) : (cutV xs lo hi).length ≤ xs.length := by
  unfold cutV
  rw [List.length_take, List.length_drop]
  omega
end
end L2
namespace L2
open PySem PySem.Spec PyProof.Rows
/-- the place that an index of any sign means -/
def ixN (n : Nat) (i : Int) : Option Nat := if 0 ≤ i then (if i < n then some i.toNat else none) else if -(n : Int) ≤ i then some (i + n).toNat else none
def atI {α : Type} (xs : List α) (i : Int) : Option α := (ixN xs.length i).bind fun j => xs[j]?
theorem ixN_seq {n : Nat} {i : Int} {j : Nat} (h : ixN n i = some j) : seqIndex? i n = some j ∧ j < n ∧ -(n : Int) ≤ i ∧ i < n := by
  unfold ixN at h
  by_cases h0 : 0 ≤ i
  · rw [if_pos h0] at h
    by_cases h1 : i < n
    · rw [if_pos h1] at h
      have e : i.toNat = j := Option.some.inj h
      exact ⟨by rw [seqIndex_of h0 h1, e], by omega, by omega, h1⟩
    · rw [if_neg h1] at h; cases h
  · rw [if_neg h0] at h
    by_cases h1 : -(n : Int) ≤ i
    · rw [if_pos h1] at h
      have e : (i + n).toNat = j := Option.some.inj h
      exact ⟨by rw [seqIndex_neg (by omega) h1, e], by omega, h1, by omega⟩
    · rw [if_neg h1] at h; cases h
theorem atI_get {α : Type} {xs : List α} {i : Int} {v : α} (h : atI xs i = some v) : ∃ j, seqIndex? i xs.length = some j ∧ xs[j]? = some v ∧ j < xs.length ∧ -(xs.length : Int) ≤ i ∧ i < xs.length := by
  unfold atI at h
  cases e : ixN xs.length i with
  | none => rw [e] at h; cases h
  | some j =>
    rw [e] at h
    obtain ⟨h1, h2, h3, h4⟩ := ixN_seq e
    exact ⟨j, h1, h, h2, h3, h4⟩
theorem atI_nat {α : Type} {xs : List α} {j : Nat} {v : α} (h : xs[j]? = some v) : atI xs (j : Int) = some v := by
  have hj : j < xs.length := (List.getElem?_eq_some_iff.mp h).1
  have e : ixN xs.length (j : Int) = some j := by
    unfold ixN
    rw [if_pos (by omega), if_pos (by omega)]; simp
  unfold atI; rw [e]; exact h
/-- what stands as an index of a plain subscript -/
def PlainIx (b : Expr) : Prop := ∀ o i, subscripted b false o i = operate [o, i] (getItem o i)
/-- a subscript by values -/
def IxR (X : Cx) (r : R2) : Prop :=
  ∀ (value slice : Expr) (pins : List (Addr × Obj)) (s : Shared) (σ : St) (H : Hp) (x y : V) (v u : Value) (Q : VK), Inv X pins σ H s → RelV x v → RelV y u → r x y H Q →
    subscripted slice false v u = operate [v, u] (getItem v u) → wpAny (model X.prog X.w) X.A (subscriptTail value slice v u) (EP X pins σ Q) X.xe s
/-- a call of a builtin's method by values: the receiver, the arguments -/
def MtR (X : Cx) (id : String) (r : V → List V → Hp → VK → Prop) : Prop :=
  ∀ (pins : List (Addr × Obj)) (s : Shared) (σ : St) (H : Hp) (x : V) (xs : List V) (v : Value) (us : List Value) (Q : VK), Inv X pins σ H s → RelV x v → Vals xs us → r x xs H Q →
    wpAny (model X.prog X.w) X.A (call (.builtin id) (v :: us)) (EP X pins σ Q) X.xe s
section
variable {X : Cx} {a b : Expr} {ta tb : TE} {pos : Pos}
theorem IxR.or {r r' : R2} (h : IxR X r) (h' : IxR X r') : IxR X (fun x y H Q => r x y H Q ∨ r' x y H Q) := by
  intro value slice pins s σ H x y v u Q I rx ry q hs
  rcases q with q | q
  · exact h value slice pins s σ H x y v u Q I rx ry q hs
  · exact h' value slice pins s σ H x y v u Q I rx ry q hs
theorem MtR.or {id : String} {r r' : V → List V → Hp → VK → Prop} (h : MtR X id r) (h' : MtR X id r') : MtR X id (fun x xs H Q => r x xs H Q ∨ r' x xs H Q) := by
  intro pins s σ H x xs v us Q I rx rs q
  rcases q with q | q
  · exact h pins s σ H x xs v us Q I rx rs q
  · exact h' pins s σ H x xs v us Q I rx rs q
/-- a[b] -/
theorem pe_ix {r : R2} (hr : IxR X r) (ha : PE X a ta) (hb : PE X b tb) (hs : PlainIx b) : PE X (.Subscript a b pos) (tOp r ta tb) := by
  intro pins s σ H Q I h
  exact Subscript_ (binT ha hb I h fun v u s2 x y H2 I2 rx ry q => hr a b pins s2 σ H2 x y v u Q I2 rx ry q (hs _ _))
def rIxL (K : PySem.W.Frag) : R2 := fun x y H Q => ∃ p xs i v, x = .ref p ∧ y = .int i ∧ SqL K H p xs ∧ atI xs i = some v ∧ Q v H
def rIxT (K : PySem.W.Frag) : R2 := fun x y H Q => ∃ p xs i v, x = .ref p ∧ y = .int i ∧ SqT K H p xs ∧ atI xs i = some v ∧ Q v H
theorem ix_list : IxR X (rIxL X.K) := by
  intro value slice pins s σ H x y v u Q I rx ry h hs
  obtain ⟨p, xs, i, z, rfl, rfl, hq, he, q⟩ := h
  cases rx
  obtain ⟨t, rfl⟩ := ry
  obtain ⟨its, r, pl, hz⟩ := I.list hq
  obtain ⟨j, h1, h2, h3, h4, h5⟩ := atI_get he
  obtain ⟨w, ew, rw'⟩ := r.get h2
  have hl := r.length
  have hn := line63
  have fin : EP X pins σ Q w s := ⟨z, H, I, rw', q⟩
  by_cases h0 : 0 ≤ i
  · have hj : i.toNat = j := by
      rw [seqIndex_of h0 h5] at h1
      exact Option.some.inj h1
    exact item_listR pl.isList h0 (by omega) (by rw [hj]; simpa using ew) fin hs
  · have hj : (i + (its.toArray.size : Int)).toNat = j := by
      rw [seqIndex_neg (by omega) h4] at h1
      rw [List.size_toArray, ← hl]
      exact Option.some.inj h1
    exact subscriptTail_builtinR (x := w) pl.isList.typeIs slot_list_getitem.lookup
      (wpAny_getItem_list_neg (Q := fun r s' => r = w ∧ EP X pins σ Q r s') pl.isList (by omega) (by rw [List.size_toArray] <;> omega) (by omega) (by rw [hj]; simpa using ew) ⟨rfl, fin⟩) hs
theorem ix_tup : IxR X (rIxT X.K) := by
  intro value slice pins s σ H x y v u Q I rx ry h hs
  obtain ⟨p, xs, i, z, rfl, rfl, hq, he, q⟩ := h
  cases rx
  obtain ⟨t, rfl⟩ := ry
  obtain ⟨its, r, pl, hz⟩ := I.tuple hq
  obtain ⟨j, h1, h2, h3, h4, h5⟩ := atI_get he
  obtain ⟨w, ew, rw'⟩ := r.get h2
  have hl := r.length
  have hn := line63
  have fin : EP X pins σ Q w s := ⟨z, H, I, rw', q⟩
  exact subscriptTail_builtinR (x := w) pl.typeIs slot_tuple_getitem.lookup
    (getItem_tuple (j := j) (Q := fun r s' => r = w ∧ EP X pins σ Q r s') pl (by omega) (by omega) (by rw [List.size_toArray, ← hl]; exact h1) (by simpa using ew) ⟨rfl, fin⟩) hs
theorem Inv.lst {pins : List (Addr × Obj)} {σ : St} {H : Hp} {s : Shared} {p : Addr} {xs : List V} (I : Inv X pins σ H s) (h : H p = some (.lst xs)) :
    ∃ (its : List Value) (n : Nat), Vals xs its ∧ s.heap.get? p = some { cls := .type "list", data := .seq its.toArray n } ∧ xs.length ≤ sizeLine := by
  obtain ⟨z, its, n, r, e⟩ := I.hok p _ h
  exact ⟨its, n, r, e, z⟩
theorem slice_bounds (lo hi : Option Int) (n : Nat) : (sliceBounds lo hi none n).1 = ((HT.sIx n 0 lo : Nat) : Int) ∧ (sliceBounds lo hi none n).2.1 = ((HT.sIx n n hi : Nat) : Int) ∧ (sliceBounds lo hi none n).2.2 = 1 := by
  refine ⟨?_, ?_, rfl⟩
  · cases lo with
    | none => simp [sliceBounds, HT.sIx]
    | some i =>
      simp only [sliceBounds, HT.sIx, Option.getD_none, show (1 : Int) > 0 by decide, if_true]
      by_cases h : i < 0
      · simp only [h, if_true] <;> omega
      · simp only [h, if_false] <;> omega
  · cases hi with
    | none => simp [sliceBounds, HT.sIx]
    | some i =>
      simp only [sliceBounds, HT.sIx, Option.getD_none, show (1 : Int) > 0 by decide, if_true]
      by_cases h : i < 0
      · simp only [h, if_true] <;> omega
      · simp only [h, if_false] <;> omega
theorem slicePick_cut (its : List Value) (lo hi : Option Int) : slicePick its.toArray lo hi none = ((its.drop (HT.sIx its.length 0 lo)).take (HT.sIx its.length its.length hi - HT.sIx its.length 0 lo)).toArray := by
  obtain ⟨h1, h2, h3⟩ := slice_bounds lo hi its.toArray.size
  unfold slicePick
  rw [h1, h2, h3]
  simp only [sliceRange_one, pick_run, List.size_toArray] <;> rfl
/-- xs[lo:hi] of a list: a new list -/
def rSlL (K : PySem.W.Frag) : V → Option Int → Option Int → Hp → VK → Prop := fun x lo hi H Q => ∃ a xs, x = .ref a ∧ SqL K H a xs ∧ ∀ p, H p = none → Q (.ref p) (upd H p (.lst (cutV xs lo hi)))
theorem sl_list : SlR X (rSlL X.K) := by
  intro pins s σ H x v vl vu lo hi sl Q I rx hs pl pu h
  obtain ⟨a, xs, rfl, hx, q⟩ := h
  cases rx
  obtain ⟨its, r, ht, hz⟩ := I.list hx
  have hlen := r.length
  refine ⟨"list", _, slot_list_getitem.lookup, ht.isList.typeIs, ?_⟩
  refine wpAny_getItem_list_slice ht.isList hs pl pu .none (by simp) ?_ (by rw [List.size_toArray] <;> omega)
  rw [slicePick_cut, ← hlen]
  refine ⟨.ref s.heap.objs.size, _, I.laid (t' := s.toks) (o := .lst (cutV xs lo hi)) (fun b ob q => Heap.get?_push_of_some _ q) (Nat.le_refl _) ?_, rfl, q _ (I.hok.fresh (Nat.le_refl _))⟩
  exact ⟨Nat.le_trans (cutV_length xs lo hi) hz, _, 0, (r.drop (HT.sIx xs.length 0 lo)).take (HT.sIx xs.length xs.length hi - HT.sIx xs.length 0 lo), Heap.get?_push_size _ rfl⟩
theorem call_len_seq : CallR X (.builtin "len") (fun xs H Q => ∃ p ys, xs = [.ref p] ∧ (SqL X.K H p ys ∨ SqT X.K H p ys) ∧ Q (.int ys.length) H) := by
  intro pins s σ H xs us Q I r h
  obtain ⟨p, ys, rfl, hq, q⟩ := h
  obtain ⟨u, rfl, rx⟩ := vals1 r
  cases rx
  have hn := line63
  rcases hq with hq | hq
  · obtain ⟨its, r', pl, hz⟩ := I.list hq
    have hlen := r'.length
    exact Calls.call_len_list pl.isList (by simp only [List.size_toArray] <;> omega) ⟨.int ys.length, H, I.tok _, ⟨s.toks + 1, by rw [List.size_toArray, hlen]⟩, q⟩
  · obtain ⟨its, r', pl, hz⟩ := I.tuple hq
    have hlen := r'.length
    exact len_tuple pl (by simp only [List.size_toArray] <;> omega) ⟨.int ys.length, H, I.tok _, ⟨s.toks + 1, by rw [List.size_toArray, hlen]⟩, q⟩
theorem CallR.or {f : Value} {r r' : List V → Hp → VK → Prop} (h : CallR X f r) (h' : CallR X f r') : CallR X f (fun xs H Q => r xs H Q ∨ r' xs H Q) := by
  intro pins s σ H xs us Q I rs q
  rcases q with q | q
  · exact h pins s σ H xs us Q I rs q
  · exact h' pins s σ H xs us Q I rs q
theorem call_tuple_of : CallR X (.type "tuple") (fun xs H Q => ∃ p ys, xs = [.ref p] ∧ ((SqL X.K H p ys ∧ ∀ l, H l = none → Q (.ref l) (upd H l (.tup ys))) ∨ (SqT X.K H p ys ∧ Q (.ref p) H))) := by
  intro pins s σ H xs us Q I r h
  obtain ⟨p, ys, rfl, h⟩ := h
  obtain ⟨u, rfl, rx⟩ := vals1 r
  cases rx
  rcases h with ⟨hq, q⟩ | ⟨hq, q⟩
  · obtain ⟨its, r', pl, hz⟩ := I.list hq
    have hlen := r'.length
    refine call_tuple_list pl.isList (fun h' kp => ?_) (by simp only [List.size_toArray] <;> omega)
    have I1 : Inv X pins σ H { s with heap := h' } := I.kept (t' := s.toks) kp
    have I2 : Inv X pins σ (upd H h'.objs.size (.tup ys)) { s with heap := h'.push { cls := .type "tuple", data := .seq its.toArray } } :=
      I1.laid (t' := s.toks) (fun b o e => Heap.get?_push_of_some _ e) (Nat.le_refl _) (show ObjOk X.prog X.w _ _ _ (.tup ys) from ⟨hz, its, r', IsTup.new _ _⟩)
    exact ⟨.ref h'.objs.size, _, I2, rfl, q _ (I1.hok.fresh (Nat.le_refl _))⟩
  · obtain ⟨its, r', pl, hz⟩ := I.tuple hq
    exact call_tuple_same pl ⟨.ref p, H, I, rfl, q⟩
/-- the value is of that builtin type -/
def tyV (K : PySem.W.Frag) (T : String) (x : V) (H : Hp) : Prop := match x with
  | .str _ => T = "str"
  | .int _ => T = "int"
  | .ref p => (T = "list" ∧ ∃ xs, SqL K H p xs) ∨ (T = "tuple" ∧ ∃ o, K.lookup p = some o ∧ o.cls = .type "tuple" ∧ o.dict = none) ∨
      (T = "dict" ∧ ((∃ kvs, H p = some (.dK kvs)) ∨ ∃ kvs, H p = some (.dT kvs))) ∨ (T = "set" ∧ ∃ S n, H p = some (.set S n))
  | _ => False
theorem tyV_is {pins : List (Addr × Obj)} {σ : St} {H : Hp} {s : Shared} {T : String} {x : V} {v : Value} (I : Inv X pins σ H s) (r : RelV x v) (ty : tyV X.K T x H) :
    s.TypeIs v T ∧ ∀ a, v = .ref a → ∃ ob, s.heap.get? a = some ob ∧ ob.dict = none := by
  cases x with
  | str z =>
    obtain ⟨t, rfl⟩ := r
    cases (show T = "str" from ty)
    exact ⟨typeIs_str s z t, fun _ e => nomatch e⟩
  | int i =>
    obtain ⟨t, rfl⟩ := r
    cases (show T = "int" from ty)
    exact ⟨typeIs_int s i t, fun _ e => nomatch e⟩
  | ref p =>
    cases r
    rcases ty with ⟨rfl, xs, hq⟩ | ⟨rfl, o, hk, hc, hd⟩ | ⟨rfl, hk⟩ | ⟨rfl, S, n, hk⟩
    · obtain ⟨its, _, pl, _⟩ := I.list hq
      refine ⟨pl.isList.typeIs, fun a e => ?_⟩
      cases e
      obtain ⟨o, n, e, c, hd, _⟩ := pl
      exact ⟨o, e, hd⟩
    · refine ⟨⟨o, I.kIn p o hk, hc⟩, fun a e => ?_⟩
      cases e
      exact ⟨o, I.kIn _ o hk, hd⟩
    · have z : ∃ o, s.heap.get? p = some o ∧ o.ExactDict := by
        rcases hk with ⟨kvs, hk⟩ | ⟨kvs, hk⟩
        · obtain ⟨_, _, _, _, o, _, _, e, ex, _⟩ := I.hok p _ hk
          exact ⟨o, e, ex⟩
        · obtain ⟨_, _, _, _, o, _, _, e, ex, _⟩ := I.hok p _ hk
          exact ⟨o, e, ex⟩
      obtain ⟨o, e, ex⟩ := z
      refine ⟨⟨o, e, ex.1⟩, fun a e2 => ?_⟩
      cases e2
      exact ⟨o, e, ex.2.1⟩
    · obtain ⟨o, _, _, _, e, ex, _⟩ := I.hok p _ hk
      refine ⟨⟨o, e, ex.1⟩, fun a e2 => ?_⟩
      cases e2
      exact ⟨o, e, ex.2.1⟩
  | _ => exact False.elim ty
def tBM (K : PySem.W.Frag) (T : String) (r : V → List V → Hp → VK → Prop) (to : TE) (t : TA) : TE := fun σ H Q => to σ H fun x H1 => tyV K T x H1 ∧ t σ H1 fun xs H2 => r x xs H2 Q
variable {o e : Expr} {es : List Expr} {to : TE} {t : TA} {name : Str} {apos cpos : Pos} {T id : String} {r : V → List V → Hp → VK → Prop}
theorem pe_bm (pa : PlainAttrs T) (slot : Slot T name id) (hty : typeOf (.builtin id) = pure (.type "method_descriptor")) (hm : MtR X id r) (ho : PE X o to) (ha : PA X (e :: es) t)
    (hbase : attributeBase o name X.env (eval o X.env) = eval o X.env := by rfl)
    (hfew : ((backTo cpos (starEach (e :: es) X.env)).all (fun x => !x.1) && (backToKw cpos (keywordEach [] X.env)).all (fun x => x.1.isSome)
      && decide ((e :: es).length + ([] : List Keyword).length + (if ([] : List Keyword).isEmpty then 0 else 1) < 30)) = true := by rfl)
    (hline : (apos.endLine == cpos.line) = true := by rfl) (hs : starEach (e :: es) X.env = (false, eval e X.env) :: starEach es X.env := by rfl) (hplain : (backTo cpos (starEach es X.env)).any (·.1) = false := by rfl) :
    PE X (.Call (.Attribute o name apos) (e :: es) [] cpos) (tBM X.K T r to t) := by
  intro pins s σ H Q I h
  refine wpAny_Call_method_late hbase hfew hline rfl (thn (ho pins s σ H _ I h) fun v s1 ⟨x, H1, I1, r1, ty, q1⟩ => ?_)
  obtain ⟨h1, h2⟩ := tyV_is I1 r1 ty
  refine ⟨T, id, pa, slot, hty, h1, h2, ?_⟩
  have hA := ha cpos pins s1 σ H1 _ I1 q1
  rw [hs] at hA ⊢
  refine Calls.callWith_builtin (by show (false || (backTo cpos (starEach es X.env)).any (·.1)) = false; rw [hplain] <;> rfl) (Calls.evalArgs_plain ?_)
  exact thn hA fun us s2 ⟨vs, H2, I2, r2, q2⟩ => hm pins s2 σ H2 x vs v us Q I2 r1 r2 q2
end
end L2
namespace L2
open PySem PySem.Spec PyProof.Rows
def MtM (X : Cx) (id : String) (r : V → List V → Hp → VK → Prop) : Prop :=
  ∀ (pins : List (Addr × Obj)) (s : Shared) (σ : St) (H : Hp) (x : V) (xs : List V) (v : Value) (us : List Value) (Q : VK), Inv X pins σ H s → RelV x v → Vals xs us → r x xs H Q →
    wpAny (model X.prog X.w) X.A (call (.builtin id) (v :: us)) (EP X pins σ Q) X.xe s
theorem Vals.one : ∀ {x : V} {us : List Value}, Vals [x] us → ∃ u, us = [u] ∧ RelV x u
  | _, _, .cons r .nil => ⟨_, rfl, r⟩
theorem Vals.two : ∀ {x y : V} {us : List Value}, Vals [x, y] us → ∃ u v, us = [u, v] ∧ RelV x u ∧ RelV y v
  | _, _, _, .cons r (.cons q .nil) => ⟨_, _, rfl, r, q⟩
theorem Vals.zero : ∀ {us : List Value}, Vals [] us → us = []
  | _, .nil => rfl
theorem Vals.eraseIdx : ∀ {xs : List V} {us : List Value} (i : Nat), Vals xs us → Vals (xs.eraseIdx i) (us.eraseIdx i)
  | _, _, _, .nil => .nil
  | _, _, 0, .cons _ t => t
  | _, _, i + 1, .cons r t => .cons r (Vals.eraseIdx i t)
theorem Vals.reverse {xs : List V} {us : List Value} (h : Vals xs us) : Vals xs.reverse us.reverse := by
  induction h with
  | nil => exact .nil
  | cons r t ih => rw [List.reverse_cons, List.reverse_cons]; exact Vals.append ih (.cons r .nil)
section
variable {X : Cx} {pins : List (Addr × Obj)} {σ : St} {H : Hp} {s : Shared} {l b : Addr} {xs ys zs : List V}
theorem Inv.lset {its its' : List Value} {n : Nat} {f : Array Value → Array Value} {t' : Nat} (I : Inv X pins σ H s) (hH : H l = some (.lst xs))
    (e : s.heap.get? l = some { cls := .type "list", data := .seq its.toArray n }) (hf : f its.toArray = its'.toArray) (hv : Vals ys its') (hz : ys.length ≤ sizeLine) :
    Inv X pins σ (upd H l (.lst ys)) { s with heap := s.heap.update l (Obj.mapSeq f), toks := t' } := by
  have q := PySem.IsL.update e f
  rw [hf] at q
  refine I.write (x := l) (e := l) (by rw [hH]; exact trivial) (.inl rfl) (fun b' u hb hu => (Heap.get?_update_other s.heap (Obj.mapSeq f) (Ne.symm hb)).trans hu) ⟨_, q⟩ ?_
  exact ⟨hz, its', _, hv, q⟩
theorem Inv.fresh (I : Inv X pins σ H s) : H s.heap.objs.size = none := I.hok.fresh (Nat.le_refl _)
theorem Inv.lstM (I : Inv X pins σ H s) (hH : H l = some (.lst xs)) : xs.length ≤ sizeLine ∧ ∃ (its : List Value) (n : Nat), Vals xs its ∧ xs.length = its.length ∧ s.heap.get? l = some { cls := .type "list", data := .seq its.toArray n } := by
  obtain ⟨z, its, n, r, e⟩ := I.hok l _ hH
  exact ⟨z, its, n, r, r.length, e⟩
end
section
variable {X : Cx}
def rAppend : V → List V → Hp → VK → Prop := fun x vs H Q => ∃ l xs y, x = .ref l ∧ vs = [y] ∧ H l = some (.lst xs) ∧ xs.length < sizeLine ∧ Q .non (upd H l (.lst (xs ++ [y])))
theorem mt_append : MtM X "list.append" rAppend := by
  intro pins s σ H x vs v us Q I rx rv h
  obtain ⟨l, xs, y, rfl, rfl, hH, hz, q⟩ := h
  cases rx
  obtain ⟨u, rfl, ru⟩ := rv.one
  obtain ⟨z, its, n, r, hl, e⟩ := I.lstM hH
  refine call_meets F.slot_list_append ⟨_, e, rfl⟩ F.entry_list_append (F.args_list_append_2 _ _) (PySem.list_append l its.toArray n u (by rw [List.size_toArray]; omega)) ⟨e, ?_⟩
  refine ⟨.non, _, I.lset (its' := its ++ [u]) hH e (by simp) (r.append (.cons ru .nil)) ?_, rfl, q⟩
  rw [List.length_append, List.length_singleton]
  omega
end
end L2
namespace L2
open PySem PySem.Spec PyProof.Rows
theorem Vals.ints : ∀ {ns : List Int} {us : List Value}, Vals (ns.map V.int) us → IntsAre us ns
  | [], us, h => by
    rw [List.map_nil] at h
    cases h
    exact IntsAre.nil
  | n :: ns, us, h => by
    rw [List.map_cons] at h
    cases h with
    | cons r t =>
      obtain ⟨k, rfl⟩ := r
      exact IntsAre.cons n k (Vals.ints t)
theorem vals_of_ints : ∀ {us : List Value} {ns : List Int}, IntsAre us ns → Vals (ns.map V.int) us
  | _, _, .nil => by rw [List.map_nil]; exact Paired.nil
  | _, _, .cons n t h => by rw [List.map_cons]; exact Paired.cons (show RelV (V.int n) (Value.int n t) from ⟨t, rfl⟩) (vals_of_ints h)
theorem Vals.strs : ∀ {xs : List Str} {us : List Value}, Vals (xs.map V.str) us → StrsAre us xs
  | [], us, h => by
    rw [List.map_nil] at h
    cases h
    exact StrsAre.nil
  | x :: xs, us, h => by
    rw [List.map_cons] at h
    cases h with
    | cons r t =>
      obtain ⟨k, rfl⟩ := r
      exact StrsAre.cons x k (Vals.strs t)
theorem Vals.ref1 {a : Addr} {us : List Value} (r : Vals [V.ref a] us) : us = [Value.ref a] := by
  cases r with
  | cons r t =>
    cases t
    cases r
    rfl
section
variable {prog : Program} {w : World} {A : Around} {E : Value → Shared → Prop} {s : Shared} {l : Addr} {its : List Value} {ns : List Int} {Q : Value → Shared → Prop}
theorem sum_raw (hh : A.handled = none) (hl : s.heap.IsList l its.toArray) (hi : IntsAre its ns)
    (h : ∀ h' tk t', (∀ b o, s.heap.get? b = some o → h'.get? b = some o) → Q (.int ns.sum t') { s with heap := h', toks := tk }) : wpAny (model prog w) A (call (.builtin "sum") [.ref l]) Q E s := by
  obtain ⟨xs, e⟩ := hi.allInts.items
  have hn : numsOf (intItems xs).toList = ns := by rw [← e]; exact hi.numsOf
  rw [nums_intItems] at hn
  rw [e] at hl
  refine PySem.sum_intListG hh hl fun h' tk t' hk => ?_
  have := h h' tk t' hk
  rw [preSum_eq, List.take_of_length_le (by simp), hn]; exact this
end
section
variable {X : Cx}
/-- sum(xs) of a list of ints -/
def rSum (K : PySem.W.Frag) : List V → Hp → VK → Prop := fun vs H Q => ∃ (a : Addr) (ns : List Int), vs = [V.ref a] ∧ SqL K H a (ns.map V.int) ∧ Q (.int ns.sum) H
theorem cr_sum (hc : X.calm = true) : CallR X (.builtin "sum") (rSum X.K) := by
  intro pins s σ H vs us Q I r h
  obtain ⟨a, ns, rfl, hs, q⟩ := h
  obtain ⟨its, rv, hl, _⟩ := I.list hs
  rw [Vals.ref1 r]
  exact sum_raw (I.ok.hd hc) hl.isList rv.ints fun h' tk t' hk => ⟨.int _, H, I.kept hk, ⟨_, rfl⟩, q⟩
end
end L2
namespace L2
open PySem PySem.Spec PyProof.Rows
abbrev CellAt (h : Heap) (c : Addr) (v : Option Value) : Prop := h.IsCell c v
def relS (scope sc : Scope) : Scope :=
  { scope with names := scope.names.map fun (n, k) => if (k == .free && sc.kind == .function && sc.names.lookup n == some .cell) then (n, .cell) else (n, k) }
def cloFrom (cells : List (Str × Addr)) : List (Str × NameKind) → List (Str × Addr) → List (Str × Addr)
  | [], acc => acc
  | (n, k) :: r, acc => if k == .free then cloFrom cells r ((n, (cells.lookup n).getD 0) :: acc) else cloFrom cells r acc
theorem closure_loop (env : Env) (f : Str × NameKind → List (Str × Addr) → Sem (ForInStep (List (Str × Addr))))
    (hf : ∀ n k c, f (n, k) c = if k == .free then (do let a ← cellOf env n; pure (.yield ((n, a) :: c))) else pure (.yield c)) :
    ∀ (names : List (Str × NameKind)) (acc : List (Str × Addr)), (∀ y ∈ names, y.2 = .free → ∃ c, env.cells.lookup y.1 = some c) → forIn names acc f = pure (cloFrom env.cells names acc)
  | [], acc, _ => by rw [List.forIn_nil]; rfl
  | (n, k) :: r, acc, h => by
    rw [List.forIn_cons, hf]
    have ih := fun acc => closure_loop env f hf r acc fun y hy => h y (List.mem_cons_of_mem _ hy)
    unfold cloFrom
    by_cases hk : (k == NameKind.free) = true
    · rw [if_pos hk, if_pos hk]
      obtain ⟨c, hc⟩ := h (n, k) List.mem_cons_self (by simpa using hk)
      have e : cellOf env n = pure c := by unfold cellOf; rw [hc]
      rw [e]
      have e2 : (env.cells.lookup n).getD 0 = c := by rw [hc]; rfl
      rw [e2]
      exact ih _
    · rw [if_neg hk, if_neg hk]
      exact ih _
theorem closure_ok {scope : Scope} {env : Env} (h : ∀ y ∈ scope.names, y.2 = .free → ∃ c, env.cells.lookup y.1 = some c) : closureFor scope env = pure (cloFrom env.cells scope.names []) := by
  simp only [closureFor]
  rw [closure_loop env _ (fun n k c => rfl) scope.names [] h]
  rfl
theorem mem_lookup {α : Type} : ∀ {l : List (Str × α)} {n : Str} {c : α}, (n, c) ∈ l → ∃ c', l.lookup n = some c'
  | (k, v) :: r, n, c, h => by
    rw [List.lookup_cons]
    cases hb : n == k with
    | true => exact ⟨_, rfl⟩
    | false =>
      rcases List.mem_cons.mp h with e | h
      · cases e; simp at hb
      · exact mem_lookup h
theorem cloFrom_mem {cells : List (Str × Addr)} : ∀ {names : List (Str × NameKind)} {acc : List (Str × Addr)} {n : Str} {c : Addr}, (n, c) ∈ cloFrom cells names acc → (n, c) ∈ acc ∨ ((n, .free) ∈ names ∧ c = (cells.lookup n).getD 0)
  | [], _, _, _, h => .inl h
  | (m, k) :: r, acc, n, c, h => by
    unfold cloFrom at h
    split at h
    · rename_i hk
      have hk : k = .free := by simpa using hk
      rcases cloFrom_mem h with h | ⟨h1, h2⟩
      · rcases List.mem_cons.mp h with e | h
        · cases e; exact .inr ⟨hk ▸ List.mem_cons_self, rfl⟩
        · exact .inl h
      · exact .inr ⟨List.mem_cons_of_mem _ h1, h2⟩
    · rcases cloFrom_mem h with h | ⟨h1, h2⟩
      · exact .inl h
      · exact .inr ⟨List.mem_cons_of_mem _ h1, h2⟩
theorem cloFrom_acc {cells : List (Str × Addr)} : ∀ {names : List (Str × NameKind)} {acc : List (Str × Addr)} {p : Str × Addr}, p ∈ acc → p ∈ cloFrom cells names acc
  | [], _, _, h => h
  | (m, k) :: r, acc, p, h => by
    unfold cloFrom
    split
    · exact cloFrom_acc (List.mem_cons_of_mem _ h)
    · exact cloFrom_acc h
theorem cloFrom_has {cells : List (Str × Addr)} : ∀ {names : List (Str × NameKind)} {acc : List (Str × Addr)} {n : Str}, (n, .free) ∈ names → (n, (cells.lookup n).getD 0) ∈ cloFrom cells names acc
  | (m, k) :: r, acc, n, h => by
    unfold cloFrom
    rcases List.mem_cons.mp h with e | h
    · cases e
      exact cloFrom_acc List.mem_cons_self
    · split
      · exact cloFrom_has h
      · exact cloFrom_has h
theorem cells_mem : ∀ {names : List (Str × NameKind)} {h : Heap} {acc : List (Str × Addr)} {x : Str} {c : Addr}, (x, c) ∈ cellsFrom h.objs.size names acc →
    (x, c) ∈ acc ∨ ((x, .cell) ∈ names ∧ h.objs.size ≤ c ∧ CellAt (pushCells h names) c none)
  | [], _, _, _, _, h => .inl h
  | (n, k) :: r, h, acc, x, c, hm => by
    unfold cellsFrom at hm
    unfold pushCells
    split at hm
    · rename_i hk
      rw [if_pos hk]
      have hk : k = .cell := by simpa using hk
      rw [← Heap.size_push h { cls := .type "cell", data := .cell none }] at hm
      rcases cells_mem hm with hm | ⟨h1, h2, h3⟩
      · rcases List.mem_cons.mp hm with e | hm
        · cases e
          exact .inr ⟨hk ▸ List.mem_cons_self, Nat.le_refl _, _, pushCells_keeps r _ _ _ (Heap.get?_push_size _ rfl), rfl⟩
        · exact .inl hm
      · rw [Heap.size_push] at h2
        exact .inr ⟨List.mem_cons_of_mem _ h1, Nat.le_of_succ_le h2, h3⟩
    · rename_i hk
      rw [if_neg hk]
      rcases cells_mem hm with hm | ⟨h1, h2, h3⟩
      · exact .inl hm
      · exact .inr ⟨List.mem_cons_of_mem _ h1, h2, h3⟩
theorem cells_acc : ∀ {names : List (Str × NameKind)} {n : Nat} {acc : List (Str × Addr)} {p : Str × Addr}, p ∈ acc → p ∈ cellsFrom n names acc
  | [], _, _, _, h => h
  | (m, k) :: r, n, acc, p, h => by
    unfold cellsFrom
    split
    · exact cells_acc (List.mem_cons_of_mem _ h)
    · exact cells_acc h
theorem cells_has : ∀ {names : List (Str × NameKind)} {n : Nat} {acc : List (Str × Addr)} {x : Str}, (x, .cell) ∈ names → ∃ c, (x, c) ∈ cellsFrom n names acc
  | (m, k) :: r, n, acc, x, h => by
    unfold cellsFrom
    rcases List.mem_cons.mp h with e | h
    · cases e
      exact ⟨n, cells_acc List.mem_cons_self⟩
    · split
      · exact cells_has h
      · exact cells_has h
theorem cells_inj : ∀ {names : List (Str × NameKind)} {h : Heap} {acc : List (Str × Addr)} {x y : Str} {c : Addr}, (∀ p ∈ acc, p.2 < h.objs.size) → (∀ x y c, (x, c) ∈ acc → (y, c) ∈ acc → x = y) →
    (x, c) ∈ cellsFrom h.objs.size names acc → (y, c) ∈ cellsFrom h.objs.size names acc → x = y
  | [], _, _, _, _, _, _, hi, h1, h2 => hi _ _ _ h1 h2
  | (n, k) :: r, h, acc, x, y, c, hl, hi, h1, h2 => by
    unfold cellsFrom at h1 h2
    split at h1
    · rename_i hk
      rw [if_pos hk] at h2
      rw [← Heap.size_push h { cls := .type "cell", data := .cell none }] at h1 h2
      refine cells_inj (h := h.push _) (fun p hp => ?_) (fun x y c a b => ?_) h1 h2
      · rw [Heap.size_push]
        rcases List.mem_cons.mp hp with rfl | hp
        · exact Nat.lt_succ_self _
        · exact Nat.lt_succ_of_lt (hl p hp)
      · rcases List.mem_cons.mp a with e | a <;> rcases List.mem_cons.mp b with e' | b
        · cases e; cases e'; rfl
        · cases e; exact absurd (hl _ b) (Nat.lt_irrefl _)
        · cases e'; exact absurd (hl _ a) (Nat.lt_irrefl _)
        · exact hi _ _ _ a b
    · rename_i hk
      rw [if_neg hk] at h2
      exact cells_inj hl hi h1 h2
theorem newEnv_comp {M : Model} {A : Around} {E : Value → Shared → Prop} {s : Shared} {scope : Scope} {globals : Addr} {closure : List (Str × Addr)} {qual : Str} {func : Option Addr} {code : Value} {around : Env} {builtins : Addr} {Q : Env → Shared → Prop}
    (h : Q (newEnv scope s.heap.objs.size globals (cellsFrom (s.heap.objs.size + 1) scope.names closure) qual func code (some around) builtins)
      { s with heap := pushCells (s.heap.push { cls := .type "dict", data := .dict #[] }) scope.names }) :
    wpAny M A (newFunctionEnv scope globals closure [] qual func code (some around) builtins) Q E s := by
  simp only [newFunctionEnv, Option.isSome_some, if_true]
  refine wpAny_bind (wpAny_alloc ?_)
  refine wpAny_bind (wpAny_layCells _ (fun n k c => rfl) scope.names closure _ _ ?_)
  rw [show ({ s with heap := s.heap.push { cls := .type "dict", data := .dict #[] } } : Shared).heap.objs.size = s.heap.objs.size + 1 from Heap.size_push ..]
  rw [List.forIn_nil]
  exact wpAny_bind (wpAny_pure (wpAny_pure h))
/-- every name of the written scope, in the scope that runs -/
theorem lookup_relS {sc : Scope} : ∀ {names : List (Str × NameKind)} {x : Str} {k : NameKind},
    (names.map fun (n, k) => if (k == NameKind.free && sc.kind == .function && sc.names.lookup n == some .cell) then (n, NameKind.cell) else (n, k)).lookup x = some k →
    ∃ k', names.lookup x = some k' ∧ (k = k' ∨ (k' = .free ∧ k = .cell))
  | [], _, _, h => by simp at h
  | (n, k₀) :: r, x, k, h => by
    have ih := @lookup_relS sc r x k
    have h' : List.lookup x ((if (k₀ == NameKind.free && sc.kind == .function && sc.names.lookup n == some .cell) = true then (n, NameKind.cell) else (n, k₀)) :: (r.map _)) = some k := h
    cases hx : x == n with
    | true =>
      simp only [List.lookup_cons, hx]
      by_cases hc : (k₀ == NameKind.free && sc.kind == .function && sc.names.lookup n == some .cell) = true
      · rw [if_pos hc] at h'
        simp only [List.lookup_cons, hx] at h'
        cases h'
        simp only [Bool.and_eq_true, beq_iff_eq] at hc
        exact ⟨k₀, rfl, .inr ⟨hc.1.1, rfl⟩⟩
      · rw [if_neg hc] at h'
        simp only [List.lookup_cons, hx] at h'
        cases h'
        exact ⟨_, rfl, .inl rfl⟩
    | false =>
      simp only [List.lookup_cons, hx]
      by_cases hc : (k₀ == NameKind.free && sc.kind == .function && sc.names.lookup n == some .cell) = true
      · rw [if_pos hc] at h'
        simp only [List.lookup_cons, hx] at h'
        exact ih h'
      · rw [if_neg hc] at h'
        simp only [List.lookup_cons, hx] at h'
        exact ih h'
/-- the names of a comprehension's block: its own (with their places in N), or captured -/
structure BlkOk (N : List Str) (sc scope : Scope) (own : List (Str × Nat)) : Prop where
  kind : scope.kind = .function
  uniq : ∀ y ∈ scope.names, scope.names.lookup y.1 = some y.2
  ix : ∀ p ∈ own, N[p.2]? = some p.1
  free : ∀ y ∈ scope.names, y.2 = .free → sc.names.lookup y.1 = some .cell ∨ sc.names.lookup y.1 = some .free
  own : ∀ y ∈ scope.names, y.2 = .local ∨ y.2 = .cell → y.1 ∈ own.map (·.1) ∨ y.1 ∉ N
/-- the slots of the block's own names forgotten -/
def wipe (σ : St) : List Nat → St
  | [] => σ
  | v :: vs => (wipe σ vs).set v none
theorem wipe_length (σ : St) : ∀ vs : List Nat, (wipe σ vs).length = σ.length
  | [] => rfl
  | v :: vs => by unfold wipe; rw [List.length_set, wipe_length σ vs]
theorem wipe_some {σ : St} {i : Nat} {x : V} : ∀ {vs : List Nat}, (wipe σ vs)[i]? = some (some x) → σ[i]? = some (some x) ∧ i ∉ vs
  | [], h => ⟨h, by simp⟩
  | v :: vs, h => by
    unfold wipe at h
    by_cases hi : v = i
    · subst hi
      by_cases hv : v < (wipe σ vs).length
      · rw [List.getElem?_set_self hv] at h; cases h
      · rw [List.getElem?_eq_none (by simpa using hv)] at h; cases h
    · rw [List.getElem?_set_ne hi] at h
      obtain ⟨h1, h2⟩ := wipe_some h
      exact ⟨h1, by simp only [List.mem_cons, not_or]; exact ⟨fun e => hi e.symm, h2⟩⟩
/-- the context of a block that starts at s, its iterator's objects at fp -/
abbrev Cx.blk (X : Cx) (s : Shared) (H : Hp) (scope : Scope) (cenv : Env) (fp : List Addr) : Cx := { X with s_0 := s, H_0 := H, env := cenv, outer := X.stack, ex := fp, fn := fun x => scope.names.lookup x == some .cell, pn := [], xe := fun _ _ => False }
section
variable {X : Cx} {pins : List (Addr × Obj)} {σ : St} {H : Hp} {s : Shared}
theorem block_start {scope : Scope} {own : List (Str × Nat)} {fp : List Addr} (I : Inv X pins σ H s) (ok : BlkOk X.N X.env.scope scope own) (hN : X.N.Nodup) (hfp : ∀ b ∈ fp, FpOk X pins H b ∧ b < s.heap.objs.size) :
    Inv (X.blk s H scope (compEnvC scope (cellsFrom (s.heap.objs.size + 1) scope.names (cloFrom X.env.cells scope.names [])) s.heap.objs.size X.env) fp) [] (wipe σ (own.map (·.2))) H { s with heap := pushCells (s.heap.push { cls := .type "dict", data := .dict #[] }) scope.names } := by
  have hfree : ∀ y ∈ scope.names, y.2 = .free → ∃ c, X.env.cells.lookup y.1 = some c := fun y hy e => by
    rcases ok.free y hy e with k | k
    · exact I.ok.has _ (.inl k)
    · exact I.ok.has _ (.inr k)
  generalize hcenv : compEnvC scope (cellsFrom (s.heap.objs.size + 1) scope.names (cloFrom X.env.cells scope.names [])) s.heap.objs.size X.env = cenv
  have kp : ∀ b o, s.heap.get? b = some o → (pushCells (s.heap.push { cls := .type "dict", data := .dict #[] }) scope.names).get? b = some o := fun b o e => pushCells_keeps _ _ _ _ (Heap.get?_push_of_some _ e)
  have hL : cenv.locals = s.heap.objs.size := by rw [← hcenv]; rfl
  have hcl : cenv.cells = cellsFrom (s.heap.objs.size + 1) scope.names (cloFrom X.env.cells scope.names []) := by rw [← hcenv]; rfl
  have hsc : cenv.scope = relS scope X.env.scope := by rw [← hcenv]; rfl
  rw [← Heap.size_push s.heap { cls := .type "dict", data := .dict #[] }] at hcl
  have cm : ∀ {y c}, (y, c) ∈ cloFrom X.env.cells scope.names [] → X.env.cells.lookup y = some c ∧ c < s.heap.objs.size := fun {y c} hm => by
    rcases cloFrom_mem hm with hm | ⟨h1, rfl⟩
    · cases hm
    · obtain ⟨c, hc⟩ := hfree _ h1 rfl
      rw [hc]
      obtain ⟨w, z⟩ := I.cell _ _ hc
      exact ⟨rfl, z.lt⟩
  have mem : ∀ {y c}, cenv.cells.lookup y = some c → (X.env.cells.lookup y = some c ∧ c < s.heap.objs.size) ∨ (s.heap.objs.size + 1 ≤ c ∧ CellAt (pushCells (s.heap.push { cls := .type "dict", data := .dict #[] }) scope.names) c none) := fun {y c} e => by
    rw [hcl] at e
    rcases cells_mem (PySem.mem_of_lookup e) with hm | ⟨_, h2, h3⟩
    · exact .inl (cm hm)
    · rw [Heap.size_push] at h2; exact .inr ⟨h2, h3⟩
  have look : ∀ {y}, scope.names.lookup y = some .free → ∃ c, cenv.cells.lookup y = some c ∧ X.env.cells.lookup y = some c := fun {y} hl => by
    have hy : (y, NameKind.free) ∈ scope.names := PySem.mem_of_lookup hl
    obtain ⟨c', e'⟩ := mem_lookup (cells_acc (names := scope.names) (n := (s.heap.push { cls := .type "dict", data := .dict #[] }).objs.size) (cloFrom_has (cells := X.env.cells) (acc := []) hy))
    rw [← hcl] at e'
    refine ⟨c', e', ?_⟩
    rw [hcl] at e'
    rcases cells_mem (PySem.mem_of_lookup e') with hm | ⟨h1, _, _⟩
    · exact (cm hm).1
    · have := ok.uniq _ h1
      rw [hl] at this; cases this
  have okB : (X.blk s H scope cenv fp).Ok := by
    refine ⟨I.ok.mod, by show cenv.scope.kind = _; rw [hsc]; exact ok.kind, by show cenv.globals = _; rw [← hcenv]; exact I.ok.glob, by show cenv.builtins = _; rw [← hcenv]; exact I.ok.blt, by show s.heap.objs.size ≤ cenv.locals; rw [hL]; exact Nat.le_refl _,
      fun y z c e1 e2 => ?_, fun y hy => ?_, fun y c z e => ?_, I.ok.hd, I.ok.frames, .inl rfl, fun b hb => ⟨?_, fun y c e z => ?_⟩, I.bs, Nat.le_trans I.ok.bsz I.sz, fun b o e hb => ?_, fun b hb z => ?_, I.stack, I.stkFree⟩
    · have e1 : cenv.cells.lookup y = some c := e1
      have e2 : cenv.cells.lookup z = some c := e2
      rw [hcl] at e1 e2
      refine cells_inj (fun p hp => ?_) (fun y z c a b => I.ok.inj y z c (cm a).1 (cm b).1) (PySem.mem_of_lookup e1) (PySem.mem_of_lookup e2)
      rw [Heap.size_push]
      exact Nat.lt_succ_of_lt (cm (y := p.1) (c := p.2) hp).2
    · show ∃ c, cenv.cells.lookup y = some c
      have key : ∀ k, cenv.kindOf y = some k → (k = .cell ∨ k = .free) → ∃ c, cenv.cells.lookup y = some c := fun k hk hk' => by
        unfold Env.kindOf at hk
        rw [hsc] at hk
        obtain ⟨k', e, r⟩ := lookup_relS hk
        have : k' = .cell ∨ k' = .free := by
          rcases r with rfl | ⟨rfl, _⟩
          · exact hk'
          · exact .inr rfl
        rcases this with rfl | rfl
        · obtain ⟨c, hm⟩ := cells_has (n := (s.heap.push { cls := .type "dict", data := .dict #[] }).objs.size) (acc := cloFrom X.env.cells scope.names []) (PySem.mem_of_lookup e)
          obtain ⟨c', e'⟩ := mem_lookup hm
          exact ⟨c', by rw [hcl]; exact e'⟩
        · obtain ⟨c, h1, _⟩ := look e
          exact ⟨c, h1⟩
      rcases hy with hy | hy
      · exact key _ hy (.inl rfl)
      · exact key _ hy (.inr rfl)
    · have z : (scope.names.lookup y == some NameKind.cell) = true := z
      have z : scope.names.lookup y = some .cell := by simpa using z
      have e : cenv.cells.lookup y = some c := e
      rw [hcl] at e
      rcases cells_mem (PySem.mem_of_lookup e) with hm | ⟨_, h2, _⟩
      · rcases cloFrom_mem hm with hm | ⟨h1, _⟩
        · cases hm
        · have q := ok.uniq _ h1
          rw [z] at q; cases q
      · rw [Heap.size_push] at h2
        exact Nat.le_of_succ_le h2
    · show b ≠ cenv.locals
      rw [hL]; exact Nat.ne_of_lt (hfp b hb).2
    · have e : cenv.cells.lookup y = some c := e
      rcases mem e with ⟨h1, _⟩ | ⟨h1, _⟩
      · exact (hfp b hb).1.2.2.2.2.1 y c h1 z
      · have h2 : s.heap.objs.size + 1 ≤ b := by rw [← z]; exact h1
        exact absurd (Nat.lt_of_lt_of_le (hfp b hb).2 (Nat.le_of_succ_le h2)) (Nat.lt_irrefl _)
    · rcases (hfp b hb).1.2.2.2.1 with z | z
      · exact I.ok.noex b o e z
      · exact absurd (Nat.lt_of_lt_of_le (Heap.lt_size e) (Nat.le_trans I.ok.bsz z)) (Nat.lt_irrefl _)
    · rcases List.mem_cons.mp (I.stkSub b z) with z | z
      · exact (hfp b hb).1.2.1 z
      · exact (hfp b hb).1.2.2.1 z
  refine ⟨okB, rfl, I.bare, Un.kept kp, ⟨fun _ => none, ?_, fun i y av e1 e2 e3 => ?_⟩, fun y c e => ?_, ?_, fun y c e => ?_, fun p hp => ?_, I.hok.kept kp, by rw [wipe_length]; exact I.len⟩
  · show Heap.Ns _ cenv.locals _
    rw [hL]
    exact Heap.Ns.keeps (Heap.Ns.new ..) fun b o e => pushCells_keeps _ _ _ _ e
  · obtain ⟨e2, hne⟩ := wipe_some e2
    have hfr : scope.names.lookup y = some .free ∧ (cenv.kindOf y = some .cell ∨ cenv.kindOf y = some .free) := by
      have key : ∀ k, cenv.scope.names.lookup y = some k → k = .local ∨ k = .cell ∨ k = .free → scope.names.lookup y = some .free ∧ (cenv.kindOf y = some .cell ∨ cenv.kindOf y = some .free) := fun k hk hk' => by
        have hk0 := hk
        rw [hsc] at hk
        obtain ⟨k', e, r⟩ := lookup_relS hk
        have no : ¬ (k' = .local ∨ k' = .cell) := fun hh => by
          rcases ok.own _ (PySem.mem_of_lookup e) hh with e' | e'
          · obtain ⟨p, hp, hpy⟩ := List.mem_map.mp e'
            have e3 := ok.ix p hp
            have : p.1 = y := hpy
            rw [this] at e3
            exact hne (List.mem_map.mpr ⟨p, hp, nodup_ix hN e3 e1⟩)
          · exact e' (List.mem_of_getElem? e1)
        rcases r with rfl | ⟨rfl, rfl⟩
        · rcases hk' with rfl | rfl | rfl
          · exact absurd (.inl rfl) no
          · exact absurd (.inr rfl) no
          · exact ⟨e, .inr hk0⟩
        · exact ⟨e, .inl hk0⟩
      have e3 : Vis cenv.scope y := e3
      rcases e3 with e3 | e3 | e3
      · exact key _ e3 (.inl rfl)
      · exact key _ e3 (.inr (.inl rfl))
      · exact key _ e3 (.inr (.inr rfl))
    obtain ⟨m, hn, hl⟩ := I.loc
    have hvis : Vis X.env.scope y := (ok.free _ (PySem.mem_of_lookup hfr.1) rfl).elim (fun k => .inr (.inl k)) (fun k => .inr (.inr k))
    obtain ⟨w, r, q⟩ := hl i y av e1 e2 hvis
    refine ⟨w, r, .inr ⟨hfr.2, ?_⟩⟩
    obtain ⟨c, h1, h2⟩ := look hfr.1
    rcases q with ⟨k, _⟩ | ⟨_, c', e', z⟩
    · have k : X.env.scope.names.lookup y = some .local := k
      rcases ok.free _ (PySem.mem_of_lookup hfr.1) rfl with k' | k' <;> rw [show X.env.scope.names.lookup y = _ from k'] at k <;> cases k
    · rw [h2] at e'; cases e'
      exact ⟨c, h1, z.keeps kp⟩
  · have e : cenv.cells.lookup y = some c := e
    rcases mem e with ⟨h1, _⟩ | ⟨_, z⟩
    · obtain ⟨w, z⟩ := I.cell y c h1
      exact ⟨w, z.keeps kp⟩
    · exact ⟨_, z⟩
  · show H cenv.locals = none
    rw [hL]; exact I.hok.fresh (Nat.le_refl _)
  · have e : cenv.cells.lookup y = some c := e
    rcases mem e with ⟨h1, _⟩ | ⟨h1, _⟩
    · exact I.freeC y c h1
    · exact I.hok.fresh (Nat.le_of_succ_le h1)
  · exact absurd (show p ∈ ([] : List (Addr × Obj)) ++ [] from hp) (by simp)
/-- an item appended to a tracked list -/
theorem app_ok {E : Value → Shared → Prop} {D : Addr} {xs : List V} {y : V} {v : Value} {Q : Value → Shared → Prop} (I : Inv X pins σ H s) (hD : H D = some (.lst xs)) (hz : xs.length < sizeLine) (r : RelV y v)
    (h : ∀ s', Inv X pins σ (upd H D (.lst (xs ++ [y]))) s' → Q .none s') : wpAny (model X.prog X.w) X.A (call (.builtin "list.append") [.ref D, v]) Q E s := by
  obtain ⟨hz', its, n, ri, e⟩ := I.hok D _ hD
  have hl := ri.length
  refine append_at (hsz := by rw [List.size_toArray]; omega) e fun h' sb ho' => ?_
  refine h { s with heap := h' } (I.write (t' := s.toks) (by rw [hD]; trivial) (.inl rfl) (fun b u hb q => (sb.2 b hb).trans q) ⟨_, ho'⟩ ⟨by rw [List.length_append]; exact hz, its ++ [v], n + 1, ri.append (.cons r .nil), ?_⟩)
  rw [ho']
  simp
/-- a clause's tests -/
def PTs (X : Cx) (ifs : List Expr) (t : TT) : Prop :=
  ∀ (pins : List (Addr × Obj)) (s : Shared) (σ : St) (H : Hp) (Q : Bool → Hp → Prop), Inv X pins σ H s → t σ H Q →
    wpAny (model X.prog X.w) X.A (forIn ifs true fun c r => if r = true then do let ok ← isTrue c X.env (eval c X.env); pure (ForInStep.yield ok) else pure (ForInStep.yield r)) (TP X pins σ Q) X.xe s
def tYes : TT := fun _ H Q => Q true H
theorem pts_nil : PTs X [] tYes := fun _ _ _ H _ I h => wpAny_tests_nil ⟨H, I, h⟩
theorem pts_one {c : Expr} {t : TT} (h : PT X c t) : PTs X [c] t := fun pins s σ H Q I hw => wpAny_tests_one (h pins s σ H Q I hw)
end
theorem thnF {α : Type} {t : Sem α} {Q Q' : α → Shared → Prop} {M : Model} {A : Around} {E : Value → Shared → Prop} {s : Shared} (h : wpAny M A t Q (fun _ _ => False) s) (hQ : ∀ a s, Q a s → Q' a s) : wpAny M A t Q' E s := wpAny_mono h hQ fun _ _ z => False.elim z
/-- the loop of a list comprehension's block, the target of any form (codeAny_compLoop_tests asks a target that no tuple goes to; statement and proof follow it, PyProof/CompMap.lean:41-61, with the step letOwnedTupleGo kept) -/
theorem compLoop_any {prog : Program} {w : World} {A : Around} {R : Result → Shared → Prop} {s : Shared} {elt target iter : Expr} {ifs : List Expr} {scope : Scope} {pos : Pos} {it acc : Value} {env : Env} (I : Nat → Shared → Prop)
    (turn : ∀ n s, I n s → wpAny (model prog w) A (pyNext it) (fun r s₁ => match r with
      | none => R (.ok .next) s₁
      | some v => wpAny (model prog w) A (letOwnedTupleGo target it v) (fun _ s₁' => wpAny (model prog w) A (assign target env v) (fun _ s₂ =>
          wpAny (model prog w) A (forIn ifs true fun c r => if r = true then do let ok ← isTrue c env (eval c env); pure (ForInStep.yield ok) else pure (ForInStep.yield r)) (fun ok s₃ =>
            if ok = true then wpAny (model prog w) A (eval elt env) (fun x s₄ =>
              wpAny (model prog w) A (call (.builtin "list.append") [acc, x]) (fun _ s₅ => ∃ m, m < n ∧ I m s₅) (notedBy (model prog w) A env fun e s' => R (.error e) s') s₄) (notedBy (model prog w) A env fun e s' => R (.error e) s') s₃
            else ∃ m, m < n ∧ I m s₃) (notedBy (model prog w) A env fun e s' => R (.error e) s') s₂) (notedBy (model prog w) A env fun e s' => R (.error e) s') s₁') (notedBy (model prog w) A env fun e s' => R (.error e) s') s₁) (notedBy (model prog w) A env fun e s' => R (.error e) s') s)
    (n : Nat) (h : I n s) :
    codeAny (model prog w) A (.compLoop (.ListComp elt [⟨target, iter, ifs, 0⟩] scope pos) 0 it acc env) R s := by
  refine codeAny_loop rfl I (fun n s hI => ?_) n h
  show wpAny _ A ((compTurn (.ListComp elt [⟨target, iter, ifs, 0⟩] scope pos) 0 it acc env).onRaise (fun x => do noteFrame x env; theTreesLotGoes x)) _ _ s
  refine wpAny_noted ?_
  rw [compTurn_list]
  refine wpAny_bind (wpAny_standAt (wpAny_bind (wpAny_mono (turn n s hI) (fun r s₁ h₁ => ?_) fun _ _ h' => h')))
  cases r with
  | none => exact wpAny_pure h₁
  | some v =>
    refine wpAny_bind (wpAny_mono h₁ (fun _ s₁' h₁' => ?_) fun _ _ h' => h')
    refine wpAny_bind (wpAny_mono h₁' (fun _ s₂ h₂ => wpAny_bind (wpAny_mono h₂ (fun ok s₃ h₃ => ?_) fun _ _ h' => h')) fun _ _ h' => h')
    cases ok with
    | false => exact wpAny_pure ⟨rfl, h₃⟩
    | true =>
      exact wpAny_bind (wpAny_bind (wpAny_mono h₃ (fun x s₄ h₄ => wpAny_bind (wpAny_mono h₄ (fun _ s₅ h₅ => wpAny_pure (wpAny_pure ⟨rfl, h₅⟩)) fun _ _ h' => h')) fun _ _ h' => h'))
section
variable {X : Cx}
/-- [elt for target in iter if ..]: D the new list; W by the turn and a measure, Nx what a turn is to reach -/
def tLc (wi : TI) (g : TG) (tt : TT) (te : TE) (vs : List Nat) : TE := fun σ H Q => wi σ H fun J H1 => ∀ D, H1 D = none → ∃ W : Nat → Nat → Hp → Prop, (∃ m, W 0 m (upd H1 D (.lst []))) ∧ ∀ i m H, W i m H →
  (J.stop i H ∧ Q (.ref D) H) ∨ (J.go i H ∧ ∃ Nx : Hp → Prop, (∀ H', Nx H' → ∃ m', m' < m ∧ W (i + 1) m' H') ∧ ∀ x H', J.yld i H x H' → g x (wipe σ vs) H' fun σ2 H2 => wipe σ2 vs = wipe σ vs ∧ tt σ2 H2 fun b H3 =>
    if b = true then te σ2 H3 fun y H4 => ∃ acc, H4 D = some (.lst acc) ∧ acc.length < sizeLine ∧ Nx (upd H4 D (.lst (acc ++ [y]))) else Nx H3)
theorem lc_core {pins : List (Addr × Obj)} {s : Shared} {σ : St} {H : Hp} {Q : VK} {elt tg iter : Expr} {ifs : List Expr} {scope : Scope} {own : List (Str × Nat)} {pos pos' : Pos} {wi : TI} {g : TG} {tt : TT} {te : TE} {use : Option (Value → Sem Unit)} {Qf : Value → Shared → Prop}
    (hc : X.calm = true) (hN : X.N.Nodup) (I : Inv X pins σ H s) (hi : PI X tg iter wi) (ok : BlkOk X.N X.env.scope scope own)
    (hg : ∀ (s : Shared) (H : Hp) (C : Addr) (cl : List (Str × Addr)) (fp : List Addr), PG (X.blk s H scope (compEnvC scope cl C X.env) fp) tg g) (ht : ∀ (s : Shared) (H : Hp) (C : Addr) (cl : List (Str × Addr)) (fp : List Addr), PTs (X.blk s H scope (compEnvC scope cl C X.env) fp) ifs tt)
    (he : ∀ (s : Shared) (H : Hp) (C : Addr) (cl : List (Str × Addr)) (fp : List Addr), PE (X.blk s H scope (compEnvC scope cl C X.env) fp) elt te) (hs : ∀ x, foldedSetIterable iter X.env x = pure x)
    (h : tLc wi g tt te (own.map (·.2)) σ H Q)
    (hRR : ∀ D C s' m H', Inv X pins σ H' s' → Q (.ref D) H' → s'.heap.Ns C m → FpOk X pins H' C → compPost (model X.prog X.w) X.A X.xe use Qf (.ref D) C (.ok .next) s') :
    wpAny (model X.prog X.w) X.A (comprehension (.ListComp elt [⟨tg, iter, ifs, 0⟩] scope pos) scope X.env pos' (newList []) false (eval iter X.env) use) Qf X.xe s := by
  have hfree : ∀ y ∈ scope.names, y.2 = .free → ∃ c, X.env.cells.lookup y.1 = some c := fun y hy e => by
    rcases ok.free y hy e with k | k
    · exact I.ok.has _ (.inl k)
    · exact I.ok.has _ (.inr k)
  refine wpAny_comprehension_free (use := use) rfl hs (closure_ok hfree) ok.kind (fun y hy e => by rw [ok.uniq y hy, e])
    (thn (hi pins s σ H _ I h) fun xv s1 hx => thn hx fun itv s2 h2 => ?_)
  obtain ⟨it, fp, tn, J, H2, e, I2, T, st2, f2, q⟩ := h2
  subst e
  refine wpAny_newObj_type (newEnv_comp ?_) (by show 0 ≤ sizeLine; decide)
  generalize hD : s2.heap.objs.size = D
  have hDn : H2 D = none := I2.hok.fresh (Nat.le_of_eq hD)
  obtain ⟨W, ⟨m0, w0⟩, turn⟩ := q D hDn
  -- the new list
  generalize hs3 : ({ s2 with heap := s2.heap.push { cls := .type "list", data := .seq ([] : List Value).toArray } } : Shared) = s3
  have I3 : Inv X pins σ (upd H2 D (.lst [])) s3 := by
    rw [← hs3]
    refine I2.laid (t' := s2.toks) (fun b o e => Heap.get?_push_of_some _ e) (Nat.le_of_eq hD) ⟨Nat.zero_le _, [], 0, .nil, ?_⟩
    rw [← hD]
    exact Heap.get?_push_size _ rfl
  have h3 : s3.heap = s2.heap.push { cls := .type "list", data := .seq ([] : List Value).toArray } := by rw [← hs3]
  have sz : ∀ b ∈ fp, b < s2.heap.objs.size := fun b hb => by
    obtain ⟨o, e, _⟩ := T.obj _ _ st2 b hb
    exact Heap.lt_size e
  have f3 : ∀ b ∈ fp, FpOk X pins (upd H2 D (.lst [])) b ∧ b < s3.heap.objs.size := fun b hb => by
    have hlt := sz b hb
    refine ⟨⟨?_, (f2 b hb).2⟩, by rw [h3, Heap.size_push]; exact Nat.lt_succ_of_lt hlt⟩
    rw [upd_ne (by rw [← hD]; exact Nat.ne_of_lt hlt)]
    exact (f2 b hb).1
  have st3 : tn 0 s3.heap := T.keep _ _ _ st2 fun b _ o e => by rw [h3]; exact Heap.get?_push_of_some _ e
  have I4 := block_start I3 ok hN f3
  have pg := hg s3 (upd H2 D (.lst [])) s3.heap.objs.size (cellsFrom (s3.heap.objs.size + 1) scope.names (cloFrom X.env.cells scope.names [])) fp
  have pt := ht s3 (upd H2 D (.lst [])) s3.heap.objs.size (cellsFrom (s3.heap.objs.size + 1) scope.names (cloFrom X.env.cells scope.names [])) fp
  have pe := he s3 (upd H2 D (.lst [])) s3.heap.objs.size (cellsFrom (s3.heap.objs.size + 1) scope.names (cloFrom X.env.cells scope.names [])) fp
  show codeAny _ _ (.compStart (.ListComp elt [⟨tg, iter, ifs, 0⟩] scope pos) 0 (.ref it) (.ref D) (compEnvC scope (cellsFrom (s3.heap.objs.size + 1) scope.names (cloFrom X.env.cells scope.names [])) s3.heap.objs.size X.env)) (compPost (model X.prog X.w) X.A X.xe use Qf (.ref D) s3.heap.objs.size) { s3 with heap := pushCells (s3.heap.push { cls := .type "dict", data := .dict #[] }) scope.names }
  have nfp : ∀ b ∈ fp, (upd H2 D (.lst [])) b = none := fun b hb => (f3 b hb).1.1
  generalize hce : compEnvC scope (cellsFrom (s3.heap.objs.size + 1) scope.names (cloFrom X.env.cells scope.names [])) s3.heap.objs.size X.env = ce at I4 pg pt pe ⊢
  have cL : ce.locals = s3.heap.objs.size := by subst hce; rfl
  generalize hH3 : upd H2 D (.lst []) = H3 at I3 I4 pg pt pe w0 nfp f3
  generalize hs4 : ({ s3 with heap := pushCells (s3.heap.push { cls := .type "dict", data := .dict #[] }) scope.names } : Shared) = s4 at I4 ⊢
  have st4 : tn 0 s4.heap := T.keep _ _ _ st3 fun b _ o e => by rw [← hs4]; exact pushCells_keeps _ _ _ _ (Heap.get?_push_of_some _ e)
  have stat : ∀ {σ' : St} {H' : Hp} {s' : Shared}, Inv (X.blk s3 H3 scope ce fp) [] σ' H' s' → (∀ b ∈ fp, H' b = none) → ∀ b ∈ fp, FpOk (X.blk s3 H3 scope ce fp) [] H' b := fun {σ' H' s'} I' hn b hb =>
    ⟨hn b hb, (I'.ok.exf b hb).1, I'.ok.exfs b hb, .inl hb, fun x c e => (I'.ok.exf b hb).2 x c e, fun p hp => absurd (show p ∈ ([] : List (Addr × Obj)) ++ [] from hp) (by simp)⟩
  have loop : codeAny (model X.prog X.w) X.A (.compLoop (.ListComp elt [⟨tg, iter, ifs, 0⟩] scope pos) 0 (.ref it) (.ref D) ce) (compPost (model X.prog X.w) X.A X.xe use Qf (.ref D) s3.heap.objs.size) s4 := by
    refine compLoop_any (fun n s' => ∃ i H', Inv (X.blk s3 H3 scope ce fp) [] (wipe σ (own.map (·.2))) H' s' ∧ tn i s'.heap ∧ (∀ b ∈ fp, H' b = none) ∧ W i n H') ?_ m0 ⟨0, H3, I4, st4, nfp, w0⟩
    rintro n s5 ⟨i, H5, I5, st5, n5, w5⟩
    rcases turn i n H5 w5 with ⟨stop, qq⟩ | ⟨go, Nx, hNx, step⟩
    · have td := T.done (X.blk s3 H3 scope ce fp) rfl rfl rfl hc i [] s5 _ H5 (fun _ _ => False) I5 (stat I5 n5) st5 stop
      refine thnF td fun r s6 ⟨hr, I6⟩ => ?_
      subst hr
      -- back in the def's context
      have I7 : Inv X pins σ H5 s6 := I3.call' (ch := fp) I6.os I6.base I6.hok I6.bare fun b hb => ⟨(f3 b hb).1.2.2.2.1, (f3 b hb).1.2.1, (f3 b hb).1.2.2.2.2.1, (f3 b hb).1.2.2.2.2.2⟩
      have nC : H5 s3.heap.objs.size = none := by
        have z : H5 ce.locals = none := I6.free
        rw [cL] at z
        exact z
      obtain ⟨m, hn, _⟩ := I6.loc
      have hn : s6.heap.Ns ce.locals m := hn
      rw [cL] at hn
      exact hRR D s3.heap.objs.size s6 m H5 I7 qq hn (I3.fpOk (Nat.le_refl _) nC)
    · have ti := T.item (X.blk s3 H3 scope ce fp) rfl rfl rfl hc i [] s5 _ H5 (fun _ _ => False) I5 (stat I5 n5) st5 go
      refine thnF ti fun r s6 ⟨u, hr, h6⟩ => ?_
      subst hr
      refine thnF h6 fun _ s7 ⟨x, H7, I7, r7, y7, st7, n7⟩ => ?_
      have I7' := I7.pinned (stat I7 n7) (T.obj _ _ st7)
      refine thnF (pg _ s7 _ H7 x u _ I7' r7 (step x H7 y7)) fun _ s8 ⟨σ8, H8, I8, hw8, q8⟩ => ?_
      refine thnF (pt _ s8 σ8 H8 _ I8 q8) fun b s9 ⟨H9, I9, q9⟩ => ?_
      -- the turn's end
      have fin : ∀ {s' : Shared} {H' : Hp}, Inv (X.blk s3 H3 scope ce fp) ([] ++ pinsAt fp s7.heap) σ8 H' s' → Nx H' → ∃ m, m < n ∧ ∃ i H', Inv (X.blk s3 H3 scope ce fp) [] (wipe σ (own.map (·.2))) H' s' ∧ tn i s'.heap ∧ (∀ b ∈ fp, H' b = none) ∧ W i m H' := fun {s' H'} I' nx => by
        obtain ⟨m', hm, w'⟩ := hNx H' nx
        have pin' : ∀ b ∈ fp, ∀ o, s7.heap.get? b = some o → s'.heap.get? b = some o ∧ H' b = none := fun b hb o e =>
          let z := I'.pin (b, o) (List.mem_append_right _ (List.mem_append_right _ (mem_pinsAt hb e)))
          ⟨z.1, z.2.1⟩
        have hl : (wipe σ (own.map (·.2))).length = σ8.length := by rw [← hw8, wipe_length]
        refine ⟨m', hm, i + 1, H', (I'.unpinned (pins := [])).weak hl (fun j v e => ?_), T.keep _ _ _ st7 fun b hb o e => (pin' b hb o e).1, fun b hb => ?_, w'⟩
        · rw [← hw8] at e
          exact (wipe_some e).1
        · obtain ⟨o, e, _⟩ := T.obj _ _ st7 b hb
          exact (pin' b hb o e).2
      cases b with
      | false =>
        simp only [Bool.false_eq_true, if_false] at q9 ⊢
        exact fin I9 q9
      | true =>
        simp only [if_true] at q9 ⊢
        refine thnF (pe _ s9 σ8 H9 _ I9 q9) fun z s10 ⟨yv, H10, I10, r10, acc, hD10, hz10, nx⟩ => ?_
        exact app_ok (X := X.blk s3 H3 scope ce fp) I10 hD10 hz10 r10 fun s11 I11 => fin I11 nx
  exact codeAny_compStart_list loop (T.self X.A 0 _ _ _ st4 loop)
/-- as a value -/
theorem pe_lc {elt tg iter : Expr} {ifs : List Expr} {scope : Scope} {own : List (Str × Nat)} {pos : Pos} {wi : TI} {g : TG} {tt : TT} {te : TE} (hc : X.calm = true) (hN : X.N.Nodup) (hi : PI X tg iter wi) (ok : BlkOk X.N X.env.scope scope own)
    (hg : ∀ (s : Shared) (H : Hp) (C : Addr) (cl : List (Str × Addr)) (fp : List Addr), PG (X.blk s H scope (compEnvC scope cl C X.env) fp) tg g) (ht : ∀ (s : Shared) (H : Hp) (C : Addr) (cl : List (Str × Addr)) (fp : List Addr), PTs (X.blk s H scope (compEnvC scope cl C X.env) fp) ifs tt)
    (he : ∀ (s : Shared) (H : Hp) (C : Addr) (cl : List (Str × Addr)) (fp : List Addr), PE (X.blk s H scope (compEnvC scope cl C X.env) fp) elt te) (hs : ∀ x, foldedSetIterable iter X.env x = pure x := by intro _; rfl) :
    PE X (.ListComp elt [⟨tg, iter, ifs, 0⟩] scope pos) (tLc wi g tt te (own.map (·.2))) := by
  intro pins s σ H Q I h
  rw [eval_ListComp]
  refine lc_core hc hN I hi ok hg ht he hs h fun D C s' m H' I' q hn f => ⟨m, hn, fun h'' sb => ?_⟩
  obtain ⟨f0, f1, f2, f3, f4, f5⟩ := f
  exact ⟨.ref D, H', I'.turned (t' := s'.toks) (fun b o hb e => (sb.2 b hb).trans e) f0 f1 f3 f4 f5, rfl, q⟩
end
/-- over a range: Pv by the turn and the heap (the new list at D within) -/
theorem lc_range {lo : Int} {n : Nat} {g : TG} {tt : TT} {te : TE} {vs : List Nat} {σ : St} {H1 : Hp} {D : Addr} {Qd : Hp → Prop} (Pv : Nat → Hp → Prop) (h0 : Pv 0 (upd H1 D (.lst [])))
    (hs : ∀ i H, i < n → Pv i H → g (.int (lo + i)) (wipe σ vs) H fun σ2 H2 => wipe σ2 vs = wipe σ vs ∧ tt σ2 H2 fun b H3 =>
      if b = true then te σ2 H3 fun y H4 => ∃ acc, H4 D = some (.lst acc) ∧ acc.length < sizeLine ∧ Pv (i + 1) (upd H4 D (.lst (acc ++ [y]))) else Pv (i + 1) H3) (hd : ∀ H, Pv n H → Qd H) :
    ∃ W : Nat → Nat → Hp → Prop, (∃ m, W 0 m (upd H1 D (.lst []))) ∧ ∀ i m H, W i m H →
      ((Itr lo n).stop i H ∧ Qd H) ∨ ((Itr lo n).go i H ∧ ∃ Nx : Hp → Prop, (∀ H', Nx H' → ∃ m', m' < m ∧ W (i + 1) m' H') ∧ ∀ x H', (Itr lo n).yld i H x H' → g x (wipe σ vs) H' fun σ2 H2 => wipe σ2 vs = wipe σ vs ∧ tt σ2 H2 fun b H3 =>
        if b = true then te σ2 H3 fun y H4 => ∃ acc, H4 D = some (.lst acc) ∧ acc.length < sizeLine ∧ Nx (upd H4 D (.lst (acc ++ [y]))) else Nx H3) := by
  refine ⟨fun i m H => m = n - i ∧ i ≤ n ∧ Pv i H, ⟨n, by simp, Nat.zero_le _, h0⟩, ?_⟩
  rintro i m H ⟨rfl, hi, p⟩
  by_cases hlt : i < n
  · refine .inr ⟨hlt, Pv (i + 1), fun H' p' => ⟨n - (i + 1), by omega, rfl, hlt, p'⟩, fun x H' y => ?_⟩
    obtain ⟨e, y⟩ := y
    subst e y
    exact hs i _ hlt p
  · have e : i = n := by omega
    subst e
    exact .inl ⟨Nat.le_refl _, hd H p⟩
/-- over a list that the block leaves as it is -/
theorem lc_list {K : PySem.W.Frag} {a : Addr} {xs : List V} {g : TG} {tt : TT} {te : TE} {vs : List Nat} {σ : St} {H1 : Hp} {D : Addr} {Qd : Hp → Prop} (Pv : Nat → Hp → Prop) (h0 : Pv 0 (upd H1 D (.lst []))) (hl : ∀ i H, i ≤ xs.length → Pv i H → SqL K H a xs)
    (hs : ∀ i x H, xs[i]? = some x → Pv i H → g x (wipe σ vs) H fun σ2 H2 => wipe σ2 vs = wipe σ vs ∧ tt σ2 H2 fun b H3 =>
      if b = true then te σ2 H3 fun y H4 => ∃ acc, H4 D = some (.lst acc) ∧ acc.length < sizeLine ∧ Pv (i + 1) (upd H4 D (.lst (acc ++ [y]))) else Pv (i + 1) H3) (hd : ∀ H, Pv xs.length H → Qd H) :
    ∃ W : Nat → Nat → Hp → Prop, (∃ m, W 0 m (upd H1 D (.lst []))) ∧ ∀ i m H, W i m H →
      ((Itl K a).stop i H ∧ Qd H) ∨ ((Itl K a).go i H ∧ ∃ Nx : Hp → Prop, (∀ H', Nx H' → ∃ m', m' < m ∧ W (i + 1) m' H') ∧ ∀ x H', (Itl K a).yld i H x H' → g x (wipe σ vs) H' fun σ2 H2 => wipe σ2 vs = wipe σ vs ∧ tt σ2 H2 fun b H3 =>
        if b = true then te σ2 H3 fun y H4 => ∃ acc, H4 D = some (.lst acc) ∧ acc.length < sizeLine ∧ Nx (upd H4 D (.lst (acc ++ [y]))) else Nx H3) := by
  refine ⟨fun i m H => m = xs.length - i ∧ i ≤ xs.length ∧ Pv i H, ⟨xs.length, by simp, Nat.zero_le _, h0⟩, ?_⟩
  rintro i m H ⟨rfl, hi, p⟩
  have q := hl i H hi p
  by_cases hlt : i < xs.length
  · refine .inr ⟨⟨xs, xs[i], q, by simp [hlt]⟩, Pv (i + 1), fun H' p' => ⟨xs.length - (i + 1), by omega, rfl, hlt, p'⟩, fun x H' y => ?_⟩
    obtain ⟨e, y⟩ := y
    subst e
    exact hs i x _ (y xs q) p
  · have e : i = xs.length := by omega
    subst e
    exact .inl ⟨⟨xs, q, Nat.le_refl _⟩, hd H p⟩
end L2
namespace L2
open PySem PySem.Spec PyProof.Rows
section
variable {κ : Type} [DecidableEq κ]
def valV (kvs : List (κ × V)) (k : κ) : Option V := (kvs.find? fun kv => decide (kv.1 = k)).map (·.2)
/-- in its place, or at the end -/
def putK (kvs : List (κ × V)) (k : κ) (v : V) : List (κ × V) :=
  if (kvs.any fun kv => decide (kv.1 = k)) = true then kvs.map (fun kv => if kv.1 = k then (kv.1, v) else kv) else kvs ++ [(k, v)]
def dropK (kvs : List (κ × V)) (k : κ) : List (κ × V) := kvs.filter fun kv => decide (kv.1 ≠ k)
theorem valV_pos {p : κ × V} {r : List (κ × V)} {k : κ} (e : p.1 = k) : valV (p :: r) k = some p.2 := by simp [valV, List.find?_cons, e]
theorem valV_neg {p : κ × V} {r : List (κ × V)} {k : κ} (e : ¬ p.1 = k) : valV (p :: r) k = valV r k := by simp [valV, List.find?_cons, e]
theorem valV_any (k : κ) : ∀ kvs : List (κ × V), (kvs.any fun kv => decide (kv.1 = k)) = (valV kvs k).isSome
  | [] => rfl
  | p :: r => by
    rw [List.any_cons]
    by_cases e : p.1 = k
    · simp only [valV_pos e, decide_eq_true e, Bool.true_or, Option.isSome_some]
    · rw [valV_neg e, decide_eq_false e, Bool.false_or]; exact valV_any k r
theorem length_putK (kvs : List (κ × V)) (k : κ) (v : V) : (putK kvs k v).length ≤ kvs.length + 1 := by
  unfold putK
  split
  · rw [List.length_map]; omega
  · rw [List.length_append, List.length_cons, List.length_nil]; omega
theorem putK_new {kvs : List (κ × V)} {k : κ} (v : V) (h : valV kvs k = none) : putK kvs k v = kvs ++ [(k, v)] := by
  unfold putK
  rw [valV_any, h]
  exact if_neg (by decide)
theorem RelO.isSome_eq {o : Option V} {u : Option Value} (r : RelO o u) : o.isSome = u.isSome := by
  cases o with
  | none => cases u with
    | none => rfl
    | some _ => exact (show False from r).elim
  | some _ => cases u with
    | none => exact (show False from r).elim
    | some _ => rfl
theorem RelO.getD {o : Option V} {u : Option Value} {d : V} {d' : Value} (r : RelO o u) (rd : RelV d d') : RelV (o.getD d) (u.getD d') := by
  cases o with
  | none => cases u with
    | none => exact rd
    | some _ => exact (show False from r).elim
  | some _ => cases u with
    | none => exact (show False from r).elim
    | some _ => exact r
/-- raw tables of the same keys -/
theorem KV.val {kvs : List (κ × V)} {vs : List (κ × Value)} (r : KV kvs vs) (k : κ) : RelO (valV kvs k) (valueAt vs k) := by
  unfold KV at r
  induction r with
  | nil => exact True.intro
  | @cons p q ps qs h t ih =>
    obtain ⟨h1, h2⟩ := h
    by_cases e : p.1 = k
    · have e' : q.1 = k := h1.symm.trans e
      have b : valueAt (q :: qs) k = some q.2 := by simp [valueAt, List.find?_cons, e']
      rw [valV_pos e, b]; exact h2
    · have e' : ¬ q.1 = k := fun z => e (h1.trans z)
      have b : valueAt (q :: qs) k = valueAt qs k := by simp [valueAt, List.find?_cons, e']
      rw [valV_neg e, b]; exact ih
theorem KV.any {kvs : List (κ × V)} {vs : List (κ × Value)} (r : KV kvs vs) (k : κ) : (kvs.any fun kv => decide (kv.1 = k)) = vs.any fun kv => decide (kv.1 = k) := by
  unfold KV at r
  induction r with
  | nil => rfl
  | cons h t ih => rw [List.any_cons, List.any_cons, ih, h.1]
theorem KV.repl {kvs : List (κ × V)} {vs : List (κ × Value)} (r : KV kvs vs) (k : κ) {y : V} {u : Value} (ry : RelV y u) :
    KV (kvs.map fun kv => if kv.1 = k then (kv.1, y) else kv) (vs.map fun kv => if kv.1 = k then (kv.1, u) else kv) := by
  unfold KV at r ⊢
  induction r with
  | nil => exact .nil
  | @cons p q ps qs h t ih =>
    rw [List.map_cons, List.map_cons]
    refine .cons ?_ ih
    obtain ⟨h1, h2⟩ := h
    by_cases e : p.1 = k
    · rw [if_pos e, if_pos (h1.symm.trans e)]; exact ⟨h1, ry⟩
    · rw [if_neg e, if_neg (fun z => e (h1.trans z))]; exact ⟨h1, h2⟩
theorem KV.put {kvs : List (κ × V)} {vs : List (κ × Value)} (r : KV kvs vs) (k : κ) {y : V} {u : Value} (ry : RelV y u) : KV (putK kvs k y) (stored vs k u) := by
  unfold putK stored
  rw [r.any k]
  by_cases e : (vs.any fun kv => decide (kv.1 = k)) = true
  · rw [if_pos e, if_pos e]; exact r.repl k ry
  · rw [if_neg e, if_neg e]; exact Paired.snoc r ⟨rfl, ry⟩
theorem KV.drop {kvs : List (κ × V)} {vs : List (κ × Value)} (r : KV kvs vs) (k : κ) : KV (dropK kvs k) (without vs k) := by
  unfold KV at r ⊢
  unfold dropK without
  induction r with
  | nil => exact .nil
  | @cons p q ps qs h t ih =>
    obtain ⟨h1, h2⟩ := h
    rw [List.filter_cons, List.filter_cons]
    by_cases e : p.1 = k
    · have a : ¬ decide (p.1 ≠ k) = true := by simp [e]
      have b : ¬ decide (q.1 ≠ k) = true := by simp [h1.symm.trans e]
      rw [if_neg a, if_neg b]; exact ih
    · have e' : ¬ q.1 = k := fun z => e (h1.trans z)
      have a : decide (p.1 ≠ k) = true := by simp [e]
      have b : decide (q.1 ≠ k) = true := by simp [e']
      rw [if_pos a, if_pos b]; exact .cons ⟨h1, h2⟩ ih
theorem KV.keys {kvs : List (κ × V)} {vs : List (κ × Value)} (r : KV kvs vs) : kvs.map (·.1) = vs.map (·.1) := by
  unfold KV at r
  induction r with
  | nil => rfl
  | cons h t ih => rw [List.map_cons, List.map_cons, ih, h.1]
theorem KV.length {kvs : List (κ × V)} {vs : List (κ × Value)} (r : KV kvs vs) : kvs.length = vs.length := Paired.length r
end
theorem kV_is {P : Program} {w : World} {k : Key} {u : Value} (r : RelV (kV k) u) : (mixKind P w).is k u = true := by
  cases k with
  | inl i => obtain ⟨t, e⟩ := (show ∃ t, u = Value.int i t from r); subst e; exact mixKind_int P w i t
  | inr x => obtain ⟨t, e⟩ := (show ∃ t, u = Value.str x t from r); subst e; exact mixKind_str P w x t
theorem items_are {P : Program} {w : World} : ∀ {ks : List Key} {us : List Value}, Vals (ks.map kV) us → ItemsAre (mixKind P w) ks us
  | [], _, r => by rw [List.map_nil] at r; cases r; exact .nil
  | k :: ks, _, r => by
    rw [List.map_cons] at r
    cases r with
    | cons h t => exact .cons (kV_is h) (items_are t)
/-- raw entries of a dict with tuple keys -/
abbrev KT (H : Hp) : List (List Key × V) → List (List Key × Addr × Value) → Prop := Paired fun p q => p.1 = q.1 ∧ H q.2.1 = some (.tup (p.1.map kV)) ∧ RelV p.2 q.2.2
theorem KT.val {H : Hp} {kvs : List (List Key × V)} {xs : List (List Key × Addr × Value)} (r : KT H kvs xs) (k : List Key) : RelO (valV kvs k) ((atKey xs k).map (·.2)) := by
  induction r with
  | nil => exact True.intro
  | @cons p q ps qs h t ih =>
    obtain ⟨h1, _, h2⟩ := h
    by_cases e : p.1 = k
    · have e' : q.1 = k := h1.symm.trans e
      have b : atKey (q :: qs) k = some q.2 := by simp [atKey, List.find?_cons, e']
      rw [valV_pos e, b]; exact h2
    · have e' : ¬ q.1 = k := fun z => e (h1.trans z)
      have b : atKey (q :: qs) k = atKey qs k := by simp [atKey, List.find?_cons, e']
      rw [valV_neg e, b]; exact ih
theorem KT.repl {H : Hp} {kvs : List (List Key × V)} {xs : List (List Key × Addr × Value)} (r : KT H kvs xs) (k : List Key) {y : V} {u : Value} (ry : RelV y u) :
    KT H (kvs.map fun kv => if kv.1 = k then (kv.1, y) else kv) (xs.map (putAt k u)) := by
  induction r with
  | nil => exact .nil
  | @cons p q ps qs h t ih =>
    rw [List.map_cons, List.map_cons]
    refine .cons ?_ ih
    obtain ⟨h1, h2, h3⟩ := h
    unfold putAt
    by_cases e : p.1 = k
    · rw [if_pos e, if_pos (h1.symm.trans e)]; exact ⟨h1, h2, ry⟩
    · rw [if_neg e, if_neg (fun z => e (h1.trans z))]; exact ⟨h1, h2, h3⟩
theorem KT.put {H : Hp} {kvs : List (List Key × V)} {xs : List (List Key × Addr × Value)} (r : KT H kvs xs) (k : List Key) {b : Addr} {y : V} {u : Value} (hb : H b = some (.tup (k.map kV))) (ry : RelV y u) :
    KT H (putK kvs k y) (storedH xs k b u) := by
  have e : (kvs.any fun kv => decide (kv.1 = k)) = (atKey xs k).isSome := by
    rw [valV_any, (r.val k).isSome_eq, Option.isSome_map]
  unfold putK storedH
  rw [e]
  by_cases q : (atKey xs k).isSome = true
  · rw [if_pos q, if_pos q]; exact r.repl k ry
  · rw [if_neg q, if_neg q]; exact Paired.snoc r ⟨rfl, hb, ry⟩
theorem KT.keeps {H H' : Hp} {kvs : List (List Key × V)} {xs : List (List Key × Addr × Value)} (r : KT H kvs xs) (ht : ∀ b ys, H b = some (.tup ys) → H' b = some (.tup ys)) : KT H' kvs xs :=
  Paired.mapP r fun _ _ z => ⟨z.1, ht _ _ z.2.1, z.2.2⟩
section
variable {P : Program} {w : World} {H : Hp} {h : Heap} {a : Addr}
theorem rd_of {u : HO} (ok : HOk P w H h) (e : Rd H a u) : ObjOk P w H h a u := e.ok ok
theorem dk_rd {kvs : List (Key × V)} (ok : HOk P w H h) (e : Rd H a (.dK kvs)) : kvs.length ≤ sizeLine ∧ (a == sysModules) = false ∧ ∃ vs, KV kvs vs ∧ h.DictOf (mixKind P w) a vs :=
  show ObjOk P w H h a (.dK kvs) from rd_of ok e
theorem dk_of {kvs : List (Key × V)} (ok : HOk P w H h) (e : H a = some (.dK kvs)) : kvs.length ≤ sizeLine ∧ (a == sysModules) = false ∧ ∃ vs, KV kvs vs ∧ h.DictOf (mixKind P w) a vs := dk_rd ok (.inl e)
/-- a tracked tuple of ints and texts is a key -/
theorem key_of {ks : List Key} (ok : HOk P w H h) (e : H a = some (.tup (ks.map kV))) : (tupleKind (mixKind P w)).is h ks a := by
  obtain ⟨_, its, r, o, h1, h2, n, h3⟩ := (show ObjOk P w H h a (.tup (ks.map kV)) from ok a _ e)
  exact ⟨o, its.toArray, n, h1, h2, h3, by simpa using items_are r⟩
theorem dt_rd {kvs : List (List Key × V)} (ok : HOk P w H h) (e : Rd H a (.dT kvs)) : kvs.length ≤ sizeLine ∧ (a == sysModules) = false ∧
    ∃ xs, KT H kvs xs ∧ h.DictOfH (tupleKind (mixKind P w)) a xs := by
  obtain ⟨z, y, xs, r, o, es, ep, h1, h2, h3, h4, h5⟩ := (show ObjOk P w H h a (.dT kvs) from rd_of ok e)
  refine ⟨z, y, xs, r, o, es, ep, h1, h2, h3, h4, fun x hx => ?_, h5⟩
  have all : ∀ {l : List (List Key × V)} {m : List (List Key × Addr × Value)}, KT H l m → ∀ x ∈ m, (tupleKind (mixKind P w)).is h x.1 x.2.1 := by
    intro l m q
    induction q with
    | nil => intro x hx; exact nomatch hx
    | @cons p q ps qs hq t ih =>
      intro x hx
      rcases List.mem_cons.mp hx with e | hx
      · subst e
        exact key_of ok (by rw [← hq.1]; exact hq.2.1)
      · exact ih x hx
  exact all r x hx
theorem dt_of {kvs : List (List Key × V)} (ok : HOk P w H h) (e : H a = some (.dT kvs)) : kvs.length ≤ sizeLine ∧ (a == sysModules) = false ∧
    ∃ xs, KT H kvs xs ∧ h.DictOfH (tupleKind (mixKind P w)) a xs := dt_rd ok (.inl e)
end
/-- what the dict at a holds at the key y -/
def DGet (H : Hp) (a : Addr) (y : V) (r : Option V) : Prop :=
  (∃ kvs k, Rd H a (.dK kvs) ∧ y = kV k ∧ r = valV kvs k) ∨ ∃ kvs k b, Rd H a (.dT kvs) ∧ y = .ref b ∧ H b = some (.tup (k.map kV)) ∧ r = valV kvs k
/-- the heap behind a[y] = v -/
def DPut (H : Hp) (a : Addr) (y v : V) (H' : Hp) : Prop :=
  (∃ kvs k, H a = some (.dK kvs) ∧ y = kV k ∧ kvs.length < sizeLine ∧ H' = upd H a (.dK (putK kvs k v))) ∨
  ∃ kvs k b, H a = some (.dT kvs) ∧ y = .ref b ∧ H b = some (.tup (k.map kV)) ∧ kvs.length < sizeLine ∧ H' = upd H a (.dT (putK kvs k v))
theorem DGet.k {H : Hp} {a : Addr} {kvs : List (Key × V)} {k : Key} (e : H a = some (.dK kvs)) : DGet H a (kV k) (valV kvs k) := .inl ⟨kvs, k, .inl e, rfl, rfl⟩
theorem DGet.t {H : Hp} {a b : Addr} {kvs : List (List Key × V)} {k : List Key} (e : H a = some (.dT kvs)) (eb : H b = some (.tup (k.map kV))) : DGet H a (.ref b) (valV kvs k) := .inr ⟨kvs, k, b, .inl e, rfl, eb, rfl⟩
theorem DPut.k {H : Hp} {a : Addr} {kvs : List (Key × V)} {k : Key} {v : V} (e : H a = some (.dK kvs)) (hl : kvs.length < sizeLine) : DPut H a (kV k) v (upd H a (.dK (putK kvs k v))) := .inl ⟨kvs, k, e, rfl, hl, rfl⟩
theorem DPut.t {H : Hp} {a b : Addr} {kvs : List (List Key × V)} {k : List Key} {v : V} (e : H a = some (.dT kvs)) (eb : H b = some (.tup (k.map kV))) (hl : kvs.length < sizeLine) :
    DPut H a (.ref b) v (upd H a (.dT (putK kvs k v))) := .inr ⟨kvs, k, b, e, rfl, eb, hl, rfl⟩
section
variable {X : Cx} {pins : List (Addr × Obj)} {σ : St} {H : Hp} {s : Shared} {a : Addr} {y v : V} {u r : Value} {o : Option V} {A : Around} {E : Value → Shared → Prop}
theorem Inv.big (I : Inv X pins σ H s) : sysModules < s.heap.objs.size := by
  have h : mainGlobals < s.heap.objs.size := (I.mod.glob.keeps I.bk).lt
  exact Nat.lt_trans (by decide) h
theorem d_notIn {Q : Value → Shared → Prop} (hu : A.units + 1 < cLine) (I : Inv X pins σ H s) (g : DGet H a y o) (ry : RelV y u) (h : ∀ s', Inv X pins σ H s' → Q (.bool (!o.isSome)) s') :
    wpAny (model X.prog X.w) A (compareOp .NotIn u (.ref a)) Q E s := by
  rcases g with ⟨kvs, k, e, ey, l⟩ | ⟨kvs, k, b, e, ey, eb, l⟩
  · subst ey
    obtain ⟨z, hd, vs, rel, dd⟩ := dk_rd I.hok e
    refine wpAny_notIn_of (kV_is ry) hd dd.mapOf ?_
    rw [← (rel.val k).isSome_eq, ← l]
    exact h _ (I.tok _)
  · subst ey
    cases (show u = Value.ref b from ry)
    obtain ⟨z, hd, xs, rel, dd⟩ := dt_rd I.hok e
    refine wpAny_notIn_heap (tupleKind_room_in1 hu) (key_of I.hok eb) hd dd ?_
    have q := (rel.val k).isSome_eq
    rw [Option.isSome_map] at q
    rw [← q, ← l]
    exact h _ (I.tok _)
/-- a dict's object is replaced -/
theorem d_write {h' : Heap} {t' : Nat} {ob : HO} (I : Inv X pins σ H s) (mu : Mut (H a)) (hs : Heap.SameBut a s.heap h') (he : ∃ q, h'.get? a = some q) (new : ObjOk X.prog X.w (upd H a ob) h' a ob) :
    Inv X pins σ (upd H a ob) { s with heap := h', toks := t' } :=
  I.write (x := a) (e := a) mu (.inl rfl) (fun b q hb z => (hs.2 b hb).trans z) he new
theorem dk_new {P : Program} {w : World} {H' : Hp} {h' : Heap} {kvs : List (Key × V)} {vs : List (Key × Value)} (z : kvs.length ≤ sizeLine) (hd : (a == sysModules) = false) (rel : KV kvs vs) (dd : h'.DictOf (mixKind P w) a vs) :
    ObjOk P w H' h' a (.dK kvs) := ⟨z, hd, vs, rel, dd⟩
/-- d[y] = v -/
theorem d_setItem {H' : Hp} {Q : Unit → Shared → Prop} (hu : A.units + 1 < cLine) (I : Inv X pins σ H s) (g : DPut H a y v H') (ry : RelV y u) (rv : RelV v r) (h : ∀ s', Inv X pins σ H' s' → Q () s') :
    wpAny (model X.prog X.w) A (setItem (.ref a) u r) Q E s := by
  rcases g with ⟨kvs, k, e, ey, l, eH⟩ | ⟨kvs, k, b, e, ey, eb, l, eH⟩
  · subst ey eH
    obtain ⟨z, hd, vs, rel, dd⟩ := dk_of I.hok e
    have hz : vs.length ≤ sizeLine := by rw [← rel.length]; exact z
    have hl : (putK kvs k v).length ≤ sizeLine := by have := length_putK kvs k v; omega
    refine wpAny_setItem_pairs (hsz := hz) (kV_is ry) dd fun h' dd' hs => h _ ?_
    have he : ∃ q, h'.get? a = some q := let ⟨q, _, _, hq, _⟩ := dd'; ⟨q, hq⟩
    exact d_write I (by rw [e]; exact True.intro) hs he (dk_new hl hd (rel.put k rv) dd')
  · subst ey eH
    cases (show u = Value.ref b from ry)
    obtain ⟨z, hd, xs, rel, dd⟩ := dt_of I.hok e
    have hz : xs.length ≤ sizeLine := by rw [← Paired.length rel]; exact z
    have hl : (putK kvs k v).length ≤ sizeLine := by have := length_putK kvs k v; omega
    refine wpAny_setItem_heap (hsz := hz) (tupleKind_room_in1 hu) (key_of I.hok eb) dd fun h' dd' hs => h _ ?_
    obtain ⟨q, es, ep, hq, h2, h3, h4, _, h5⟩ := dd'
    refine d_write I (by rw [e]; exact True.intro) hs ⟨q, hq⟩ ⟨hl, hd, _, (rel.put k eb rv).keeps fun c ys ec => ?_, q, es, ep, hq, h2, h3, h4, h5⟩
    rw [upd_ne (ne_of ec e (fun z => nomatch z))]
    exact ec
end
def tDNotIn (ty td : TE) : TE := fun σ H Q => ty σ H fun y H1 => td σ H1 fun x H2 => ∃ a o, x = .ref a ∧ DGet H2 a y o ∧ Q (.bl (!o.isSome)) H2
/-- d[y] = v -/
def sDPut (td ty tv : TE) : TS := fun D σ H => tv σ H fun v H1 => td σ H1 fun x H2 => ty σ H2 fun y H3 => ∃ a H4, x = .ref a ∧ DPut H3 a y v H4 ∧ D.nx σ H4
section
variable {X : Cx} {o i e value : Expr} {pos pos' tpos : Pos} {td ty tv : TE}
theorem pc_dnotin (hu : X.A.units + 1 < cLine) (hi : PE X i ty) (ho : PE X o td) : PC X .NotIn i o (tDNotIn ty td) := by
  intro pins s σ H Q I h
  refine thn (hi pins s σ H _ I h) fun iv s1 ⟨y, H1, I1, ry, q1⟩ => thn (ho pins s1 σ H1 _ I1 q1) fun u s2 ⟨x, H2, I2, rx, a, ov, ex, g, q2⟩ => ?_
  subst ex
  obtain rfl : u = Value.ref a := rx
  exact d_notIn hu I2 g ry fun s3 I3 => ⟨.bl (!ov.isSome), H2, I3, rfl, q2⟩
theorem ps_dput (hu : X.A.units + 1 < cLine) (ho : PE X o td) (hi : PE X i ty) (hv : PE X value tv) (hs : swapsWith value (some (.Subscript o i pos')) pos.line X.env = pure false) :
    PS X (.Assign [.Subscript o i pos'] value pos) (sDPut td ty tv) := by
  intro pins s σ H D I h
  refine wpAny_Assign_Subscript (thn (hv pins s σ H _ I h) fun r s1 ⟨v, H1, I1, rv, q1⟩ => thn (ho pins s1 σ H1 _ I1 q1) fun u s2 ⟨x, H2, I2, rx, q2⟩ => thn (hi pins s2 σ H2 _ I2 q2) fun iv s3 ⟨y, H3, I3, ry, a, H4, ex, g, q3⟩ => ?_) hs
  subst ex
  obtain rfl : u = Value.ref a := rx
  exact d_setItem hu I3 g ry rv fun s4 I4 => ⟨σ, H4, I4, q3⟩
end
theorem dk_empty {P : Program} {w : World} {H : Hp} (h : Heap) (hb : sysModules < h.objs.size) : ObjOk P w H (h.push { cls := .type "dict", data := .dict #[] }) h.objs.size (.dK []) :=
  ⟨Nat.zero_le _, beq_eq_false_iff_ne.mpr (Ne.symm (Nat.ne_of_lt hb)), [], .nil, Heap.DictOf.new h⟩
/-- {}, to be a dict of the kind that is wanted -/
def tDNewK : TE := fun _ H Q => ∀ p, H p = none → Q (.ref p) (upd H p (.dK []))
section
variable {X : Cx} {pos : Pos}
theorem pe_dnewK : PE X (.Dict [] [] pos) tDNewK := fun pins s σ H Q I h =>
  wpAny_Dict_empty ⟨.ref s.heap.objs.size, _, I.laid (a := s.heap.objs.size) (o := .dK []) (t' := s.toks) (fun _ _ q => Heap.get?_push_of_some _ q) (Nat.le_refl _) (dk_empty s.heap I.big), rfl, h _ (I.hok.fresh (Nat.le_refl _))⟩
end
end L2
namespace L2
open PySem PySem.Spec PyProof.Rows
theorem paired_get {α β : Type} {G : α → β → Prop} {l₁ : List α} {l₂ : List β} (h : Paired G l₁ l₂) : ∀ {i : Nat} {a : α}, l₁[i]? = some a → ∃ b, l₂[i]? = some b ∧ G a b := by
  induction h with
  | nil => intro i a e; simp at e
  | @cons a b l₁ l₂ r t ih =>
    intro i a' e
    cases i with
    | zero =>
      simp only [List.getElem?_cons_zero, Option.some.injEq] at e
      subst e
      exact ⟨b, rfl, r⟩
    | succ j =>
      simp only [List.getElem?_cons_succ] at e ⊢
      exact ih e
end L2
section 
namespace TL
open PySem PySem.Builtin PySem.Builtin.Str PySem.StrLaws
abbrev tl (x : Str) : List Nat := x.cps.toList
/-- S stands at the head of l -/
def pre (S l : List Nat) : Bool := l.take S.length == S
/-- what stands before the first S, and behind it -/
def par (S : List Nat) : List Nat → List Nat → Option (List Nat × List Nat)
  | _, [] => none
  | acc, c :: r => if pre S (c :: r) = true then some (acc, (c :: r).drop S.length) else par S (acc ++ [c]) r
end TL
end 
namespace L2
open PySem PySem.Spec PyProof.Rows
theorem IsPart.raw {v : Value} {o : Option Int} (p : IsPart v o) : ∃ l : Option (Int × Tok), v = partValue l ∧ l.map (·.1) = o := by
  cases p with
  | none => exact ⟨none, rfl, rfl⟩
  | int i t => exact ⟨some (i, t), rfl, rfl⟩
end L2
namespace Att
open PySem PySem.W PySem.Calls PyProof.Rows
theorem ints_of_wellAll {P : Params} {h : Heap} : ∀ (ns : List Int) (vs : List Value), WellAll P h vs (ns.map WData.int) → IntsAre vs ns := by
  intro ns
  induction ns with
  | nil =>
    intro vs w
    rw [List.map_nil] at w
    cases w
    exact .nil
  | cons n ns ih =>
    intro vs w
    rw [List.map_cons] at w
    cases w with
    | cons a b =>
      cases a
      exact .cons _ _ (ih _ b)
end Att
namespace L2
open PySem PySem.Spec PyProof.Rows
theorem vals_ints : ∀ {vs : List Value} {ns : List Int}, IntsAre vs ns → Vals (ns.map V.int) vs
  | _, _, .nil => .nil
  | _, _, .cons n t h => .cons ⟨t, rfl⟩ (vals_ints h)
/-- nothing is tracked but the script, known to the object (or it is an object of the module) -/
def Only (H : Hp) : Prop := ∀ b, H b = none ∨ ∃ o xs, H b = some (.frz o (.lst xs))
end L2
namespace L2
open PySem PySem.Spec PyProof.Rows
/-- the j-th statement of a class's body -/
def inClass (s : Stmt) (j : Nat) : Stmt := match s with
  | .ClassDef _ _ _ body _ _ _ _ _ _ _ => body.getD j (.Pass ⟨0, 0, 0, 0⟩)
  | _ => .Pass ⟨0, 0, 0, 0⟩
def defArgs (s : Stmt) : Arguments := match s with
  | .FunctionDef _ a _ _ _ _ _ _ _ _ => a
  | _ => { posonlyargs := [], args := [], vararg := none, kwonlyargs := [], kw_defaults := [], kwarg := none, defaults := [] }
def defBody (s : Stmt) : List Stmt := match s with
  | .FunctionDef _ _ b _ _ _ _ _ _ _ => b
  | _ => []
def defScope (s : Stmt) : Scope := match s with
  | .FunctionDef _ _ _ _ _ _ sc _ _ _ => sc
  | _ => { kind := .function, names := [], isGenerator := false, isCoroutine := false }
abbrev CX0 : CXT := fun _ _ _ _ _ _ => False
abbrev E0 : XK := fun _ _ _ => False
theorem pass0 {X : Cx} : Passes CX0 X E0 := fun _ _ _ _ _ _ _ h => h.elim
structure Fun (K : PySem.W.Frag) (x qual : Str) (st : Stmt) (f : Addr) (fd : FuncData) : Prop where
  ex : ∃ (oc : Value) (od : Option Addr) (kV doc pm : Value) (an : Option Addr) (cdv ct : Value) (osl : Array (Option Value)),
    fd = PySem.W.fnOf x qual (defArgs st) (defBody st) (defScope st) .none kV doc pm an cdv ct ∧ K.lookup f = some ⟨oc, od, .func fd, osl⟩ ∧ PySem.W.codeIn K cdv qual = true
  kp : PySem.W.keepIn K (.ref f) = true
section
variable {P : Program} {w : World} {K : PySem.W.Frag} {mg : Str → Option Value} {base : Heap}
/-- THE RULE for a def: its body as a term of rules, and the reading of that term -/
theorem Fun.ok {x qual : Str} {st : Stmt} {f : Addr} {fd : FuncData} {N ps : List Str} {k : Nat} {sp : Sp} (F : Fun K x qual st f fd) (S : FnScope N ps (defScope st)) (len : ∀ vs H Q E, sp vs H Q E → vs.length = ps.length)
    (hbody : ∀ (cdv : Value) (A : Around) (outer : List Env) (s : Shared) (H : Hp) (vs : List V) (Q : VK) (E : XK), Room k (A.deeper (envOfC qual (defScope st) s.heap.objs.size f cdv)) → sp vs H Q E →
      ∃ t, PSs (cxOf CX0 P w K mg base N qual (defScope st) f cdv A outer s H E).nox (defBody st) t ∧ t { nx := fun _ H' => Q .non H', rt := Q } (start N vs) H) : FnOk P w K mg base CX0 (k + 1) f fd ps sp := by
  obtain ⟨oc, od, kV, doc, pm, an, cdv, ct, osl, rfl, lk, hcd⟩ := F.ex
  refine fn_of lk hcd S len fun A outer s H vs Q E hr hsp => ?_
  obtain ⟨t, h, q⟩ := hbody cdv A outer s H vs Q E hr hsp
  exact ⟨t, h.nox, q⟩
/-- how its arguments bind (no defaults): h is «fun _ _ _ _ _ _ us hl => match us, hl with | [_, _], _ => rfl», one _ a parameter -/
theorem Fun.binds {x qual : Str} {st : Stmt} {f : Addr} {fd : FuncData} {ps : List Str} (F : Fun K x qual st f fd)
    (h : ∀ (kV doc pm : Value) (an : Option Addr) (cdv ct : Value) (us : List Value), us.length = ps.length → bindArgs (PySem.W.fnOf x qual (defArgs st) (defBody st) (defScope st) .none kV doc pm an cdv ct) ⟨us, []⟩ = pure (ps.zip us)) : Binds K fd ps [] := by
  obtain ⟨oc, od, kV, doc, pm, an, cdv, ct, osl, rfl, lk, hcd⟩ := F.ex
  exact .all (h kV doc pm an cdv ct)
theorem fun_mk {x qual : Str} {st : Stmt} {f : Addr} {oc : Value} {od an : Option Addr} {osl : Array (Option Value)} {kV doc pm cdv ct : Value} (l : K.lookup f = some ⟨oc, od, .func (PySem.W.fnOf x qual (defArgs st) (defBody st) (defScope st) .none kV doc pm an cdv ct), osl⟩)
    (c : PySem.W.codeIn K cdv qual = true) (k : PySem.W.keepIn K (.ref f) = true) : Fun K x qual st f (PySem.W.fnOf x qual (defArgs st) (defBody st) (defScope st) .none kV doc pm an cdv ct) := ⟨⟨oc, od, kV, doc, pm, an, cdv, ct, osl, rfl, l, c⟩, k⟩
end
theorem hu_of {A : Around} {k : Nat} (hr : Room k A) : A.units + 1 < cLine := Nat.lt_of_le_of_lt (Nat.add_le_add_left (by decide : 1 ≤ 64) _) hr.units
theorem small1000 {n : Nat} (h : n ≤ 1000) : n < sizeLine := Nat.lt_of_le_of_lt h (by decide)
section
variable {X : Cx}
theorem pv (i : Nat) {x : Str} {pos : Pos} (hN : X.N[i]? = some x := by rfl) (hv : Vis X.env.scope x := by first | exact Or.inl rfl | exact Or.inr (Or.inl rfl) | exact Or.inr (Or.inr rfl)) (hd : (x == ("__debug__" : Str)) = false := by decide)
    (hcd : (x == ("__classdict__" : Str)) = false := by decide) : PE X (.Name x pos) (tVar i) := pe_var hN hv hd hcd
end
theorem iteF {A B : Prop} (h : B) : if false = true then A else B := by
  rw [if_neg Bool.false_ne_true]
  exact h
theorem iteT {A B : Prop} (h : A) : if true = true then A else B := by
  rw [if_pos rfl]
  exact h
/-- all that was tracked is as it was -/
def Same (H H' : Hp) : Prop := ∀ b o, H b = some o → H' b = some o
theorem Same.refl (H : Hp) : Same H H := fun _ _ h => h
theorem Same.trans {H H1 H2 : Hp} (a : Same H H1) (b : Same H1 H2) : Same H H2 := fun c o h => b c o (a c o h)
theorem Same.free {H H' : Hp} (e : Same H H') {l : Addr} (h : H' l = Option.none) : H l = Option.none := by
  cases q : H l with
  | none => rfl
  | some o =>
    rw [e l o q] at h
    cases h
theorem Same.seq {K : PySem.W.Frag} {H H' : Hp} {a : Addr} {xs : List V} (e : Same H H') (h : SqL K H a xs) : SqL K H' a xs := by
  rcases h with (h | ⟨o, h⟩) | h
  · exact .inl (.inl (e _ _ h))
  · exact .inl (.inr ⟨o, e _ _ h⟩)
  · exact .inr h
section
variable {κ : Type} [DecidableEq κ]
theorem valV_not {kvs : List (κ × V)} {k : κ} (h : valV kvs k = none) : ¬ k ∈ kvs.map (·.1) := by
  intro m
  obtain ⟨p, hp, e⟩ := List.mem_map.mp m
  have q : (kvs.any fun kv => decide (kv.1 = k)) = true := List.any_eq_true.mpr ⟨p, hp, decide_eq_true e⟩
  rw [valV_any, h] at q
  exact absurd q (by simp)
theorem valV_in {kvs : List (κ × V)} {k : κ} {v : V} (h : valV kvs k = some v) : k ∈ kvs.map (·.1) := by
  have q : (kvs.any fun kv => decide (kv.1 = k)) = true := by
    rw [valV_any, h]
    all_goals rfl
  obtain ⟨p, hp, e⟩ := List.any_eq_true.mp q
  exact List.mem_map.mpr ⟨p, hp, of_decide_eq_true e⟩
theorem nd_snoc : ∀ {l : List κ} {k : κ}, l.Nodup → ¬ k ∈ l → (l ++ [k]).Nodup
  | [], k, _, _ => by simp
  | a :: r, k, h, hk => by
    obtain ⟨h1, h2⟩ := List.nodup_cons.mp h
    show (a :: (r ++ [k])).Nodup
    refine List.nodup_cons.mpr ⟨fun m => ?_, nd_snoc h2 fun m => hk (List.mem_cons.mpr (Or.inr m))⟩
    rcases List.mem_append.mp m with q | q
    · exact h1 q
    · exact hk (List.mem_cons.mpr (Or.inl (List.mem_singleton.mp q).symm))
end
theorem at_of {xs : List V} {z : Int} {j : Nat} {v : V} (e : z = (j : Int)) (h : xs[j]? = some v) : atI xs z = some v := by
  rw [e]
  exact atI_nat h
/-- a new instance and its __init__ leave all that was tracked as it was -/
theorem Same.made {H H1 : Hp} {x dx C : Addr} (nx : H x = Option.none) (nd : H dx = Option.none) (k : ∀ b o, (upd (upd H dx (.own x)) x (.ins C dx [])) b = some o → b ≠ x → H1 b = some o) : Same H H1 := fun b o e =>
  k b o (by rw [upd_ne (ne_of_none e nx), upd_ne (ne_of_none e nd)]; exact e) (ne_of_none e nx)
end L2

/-! the mathematics: terms as bytes, reading by counting, the talk read step by step -/
namespace Tw
open Sa91
/-- a term's bytes -/
def enc : Term → List Nat
  | .name a => [0, a]
  | .pair x y => 1 :: (enc x ++ enc y)
  | .locked x y => 2 :: (enc x ++ enc y)
  | .forOne x y => 3 :: (enc x ++ enc y)
  | .print x => 4 :: enc x
  | .own x => 5 :: enc x
  | .sealed x y => 6 :: (enc x ++ enc y)
  | .unknown v => [7, v]
def Wf : Term → Prop
  | .name a => a < 16
  | .pair x y => Wf x ∧ Wf y
  | .locked x y => Wf x ∧ Wf y
  | .forOne x y => Wf x ∧ Wf y
  | .print x => Wf x
  | .own x => Wf x
  | .sealed x y => Wf x ∧ Wf y
  | .unknown v => v < 4
theorem enc_pos : ∀ t : Term, 0 < (enc t).length
  | .name _ => by simp [enc]
  | .pair _ _ => by simp [enc]
  | .locked _ _ => by simp [enc]
  | .forOne _ _ => by simp [enc]
  | .print _ => by simp [enc]
  | .own _ => by simp [enc]
  | .sealed _ _ => by simp [enc]
  | .unknown _ => by simp [enc]
theorem two_some {f : Nat} {r : Bytes} {g : Term → Term → Term} {t : Term} {s : Bytes}
    (ih : ∀ {b : Bytes} {t : Term} {r : Bytes}, term f b = some (t, r) → b = enc t ++ r ∧ Wf t)
    (h : ((term f r).bind fun x => (term f x.2).map fun y => (g x.1 y.1, y.2)) = some (t, s)) :
    ∃ x y, t = g x y ∧ r = (enc x ++ enc y) ++ s ∧ Wf x ∧ Wf y := by
  cases e : term f r with
  | none => rw [e] at h; cases h
  | some p =>
    obtain ⟨x, r1⟩ := p
    rw [e] at h
    cases e2 : term f r1 with
    | none =>
      have h' : (Option.map (fun y : Term × Bytes => (g x y.1, y.2)) (term f r1)) = some (t, s) := h
      rw [e2] at h'; cases h'
    | some p2 =>
      obtain ⟨y, r2⟩ := p2
      have h' : (Option.map (fun y : Term × Bytes => (g x y.1, y.2)) (term f r1)) = some (t, s) := h
      rw [e2] at h'
      have h'' : some (g x y, r2) = some (t, s) := h'
      cases h''
      obtain ⟨a1, a2⟩ := ih e
      obtain ⟨b1, b2⟩ := ih e2
      exact ⟨x, y, rfl, by rw [a1, b1, List.append_assoc], a2, b2⟩
theorem one_some {f : Nat} {r : Bytes} {g : Term → Term} {t : Term} {s : Bytes}
    (ih : ∀ {b : Bytes} {t : Term} {r : Bytes}, term f b = some (t, r) → b = enc t ++ r ∧ Wf t)
    (h : ((term f r).map fun x => (g x.1, x.2)) = some (t, s)) :
    ∃ x, t = g x ∧ r = enc x ++ s ∧ Wf x := by
  cases e : term f r with
  | none => rw [e] at h; cases h
  | some p =>
    obtain ⟨x, r1⟩ := p
    rw [e] at h
    have h' : some (g x, r1) = some (t, s) := h
    cases h'
    obtain ⟨a1, a2⟩ := ih e
    exact ⟨x, rfl, a1, a2⟩
theorem term_some : ∀ (f : Nat) {b : Bytes} {t : Term} {r : Bytes}, term f b = some (t, r) → b = enc t ++ r ∧ Wf t
  | 0, b, t, r, h => by simp [term] at h
  | f + 1, b, t, r, h => by
    unfold term at h
    split at h
    · rename_i a r'
      split at h
      · rename_i ha
        cases h
        exact ⟨rfl, ha⟩
      · cases h
    · obtain ⟨x, y, rfl, h1, h2, h3⟩ := two_some (g := Term.pair) (term_some f) h
      exact ⟨by rw [h1]; rfl, h2, h3⟩
    · obtain ⟨x, y, rfl, h1, h2, h3⟩ := two_some (g := Term.locked) (term_some f) h
      exact ⟨by rw [h1]; rfl, h2, h3⟩
    · obtain ⟨x, y, rfl, h1, h2, h3⟩ := two_some (g := Term.forOne) (term_some f) h
      exact ⟨by rw [h1]; rfl, h2, h3⟩
    · obtain ⟨x, rfl, h1, h2⟩ := one_some (g := Term.print) (term_some f) h
      exact ⟨by rw [h1]; rfl, h2⟩
    · obtain ⟨x, rfl, h1, h2⟩ := one_some (g := Term.own) (term_some f) h
      exact ⟨by rw [h1]; rfl, h2⟩
    · obtain ⟨x, y, rfl, h1, h2, h3⟩ := two_some (g := Term.sealed) (term_some f) h
      exact ⟨by rw [h1]; rfl, h2, h3⟩
    · rename_i v r'
      split at h
      · rename_i hv
        cases h
        exact ⟨rfl, hv⟩
      · cases h
    · cases h
theorem term_enc : ∀ (t : Term) (f : Nat) (r : Bytes), Wf t → (enc t).length ≤ f → term f (enc t ++ r) = some (t, r)
  | .name a, f, r, h, hf => by
    obtain ⟨f, rfl⟩ : ∃ g, f = g + 1 := ⟨f - 1, by simp [enc] at hf; omega⟩
    have h' : a < 16 := h
    simp [enc, term, h']
  | .unknown a, f, r, h, hf => by
    obtain ⟨f, rfl⟩ : ∃ g, f = g + 1 := ⟨f - 1, by simp [enc] at hf; omega⟩
    have h' : a < 4 := h
    simp [enc, term, h']
  | .print x, f, r, h, hf => by
    obtain ⟨f, rfl⟩ : ∃ g, f = g + 1 := ⟨f - 1, by simp [enc] at hf; omega⟩
    have := term_enc x f r h (by simp [enc] at hf; omega)
    simp [enc, term, this]
  | .own x, f, r, h, hf => by
    obtain ⟨f, rfl⟩ : ∃ g, f = g + 1 := ⟨f - 1, by simp [enc] at hf; omega⟩
    have := term_enc x f r h (by simp [enc] at hf; omega)
    simp [enc, term, this]
  | .pair x y, f, r, h, hf => by
    obtain ⟨f, rfl⟩ : ∃ g, f = g + 1 := ⟨f - 1, by simp [enc] at hf; omega⟩
    have h1 := term_enc x f (enc y ++ r) h.1 (by simp [enc] at hf; omega)
    have h2 := term_enc y f r h.2 (by simp [enc] at hf; omega)
    simp [enc, term, h1, h2]
  | .locked x y, f, r, h, hf => by
    obtain ⟨f, rfl⟩ : ∃ g, f = g + 1 := ⟨f - 1, by simp [enc] at hf; omega⟩
    have h1 := term_enc x f (enc y ++ r) h.1 (by simp [enc] at hf; omega)
    have h2 := term_enc y f r h.2 (by simp [enc] at hf; omega)
    simp [enc, term, h1, h2]
  | .forOne x y, f, r, h, hf => by
    obtain ⟨f, rfl⟩ : ∃ g, f = g + 1 := ⟨f - 1, by simp [enc] at hf; omega⟩
    have h1 := term_enc x f (enc y ++ r) h.1 (by simp [enc] at hf; omega)
    have h2 := term_enc y f r h.2 (by simp [enc] at hf; omega)
    simp [enc, term, h1, h2]
  | .sealed x y, f, r, h, hf => by
    obtain ⟨f, rfl⟩ : ∃ g, f = g + 1 := ⟨f - 1, by simp [enc] at hf; omega⟩
    have h1 := term_enc x f (enc y ++ r) h.1 (by simp [enc] at hf; omega)
    have h2 := term_enc y f r h.2 (by simp [enc] at hf; omega)
    simp [enc, term, h1, h2]
theorem termOf_some {b : Bytes} {t : Term} {r : Bytes} (h : termOf b = some (t, r)) : b = enc t ++ r ∧ Wf t := term_some _ h
theorem termOf_enc {t : Term} {r : Bytes} (h : Wf t) : termOf (enc t ++ r) = some (t, r) := term_enc t _ r h (by simp; omega)

/-! reading by counting -/
def inner (c : Nat) : Nat := ([0, 2, 2, 2, 1, 1, 2, 0] : List Nat).getD c 0
/-- past so many terms -/
def skip : Nat → Bytes → Option Bytes
  | 0, r => some r
  | _ + 1, [] => none
  | d + 1, c :: r =>
    if c = 0 then
      match r with
      | a :: r' => if a ≤ 15 then skip d r' else none
      | [] => none
    else if c = 7 then
      match r with
      | a :: r' => if a ≤ 3 then skip d r' else none
      | [] => none
    else if c ≤ 7 then skip (d + inner c) r
    else none
  termination_by _ l => l.length
theorem skip_zero (r : Bytes) : skip 0 r = some r := by unfold skip; rfl
theorem skip_nil (d : Nat) : skip (d + 1) [] = none := by unfold skip; rfl
theorem skip_cons (d c : Nat) (r : Bytes) : skip (d + 1) (c :: r) = if c = 0 then
      match r with
      | a :: r' => if a ≤ 15 then skip d r' else none
      | [] => none
    else if c = 7 then
      match r with
      | a :: r' => if a ≤ 3 then skip d r' else none
      | [] => none
    else if c ≤ 7 then skip (d + inner c) r
    else none := by
  conv => lhs; unfold skip
  cases r <;> rfl
theorem skip_enc : ∀ (t : Term) (d : Nat) (r : Bytes), Wf t → skip (d + 1) (enc t ++ r) = skip d r
  | .name a, d, r, h => by
    have h' : a < 16 := h
    show skip (d + 1) (0 :: a :: r) = _
    rw [skip_cons, if_pos rfl]
    show (if a ≤ 15 then skip d r else none) = _
    rw [if_pos (by omega)]
  | .unknown a, d, r, h => by
    have h' : a < 4 := h
    show skip (d + 1) (7 :: a :: r) = _
    rw [skip_cons, if_neg (by decide), if_pos rfl]
    show (if a ≤ 3 then skip d r else none) = _
    rw [if_pos (by omega)]
  | .print x, d, r, h => by
    show skip (d + 1) (4 :: (enc x ++ r)) = _
    rw [skip_cons, if_neg (by decide), if_neg (by decide), if_pos (by decide)]
    exact skip_enc x d r h
  | .own x, d, r, h => by
    show skip (d + 1) (5 :: (enc x ++ r)) = _
    rw [skip_cons, if_neg (by decide), if_neg (by decide), if_pos (by decide)]
    exact skip_enc x d r h
  | .pair x y, d, r, h => by
    show skip (d + 1) (1 :: ((enc x ++ enc y) ++ r)) = _
    rw [skip_cons, if_neg (by decide), if_neg (by decide), if_pos (by decide), List.append_assoc]
    show skip ((d + 1) + 1) _ = _
    rw [skip_enc x (d + 1) _ h.1, skip_enc y d r h.2]
  | .locked x y, d, r, h => by
    show skip (d + 1) (2 :: ((enc x ++ enc y) ++ r)) = _
    rw [skip_cons, if_neg (by decide), if_neg (by decide), if_pos (by decide), List.append_assoc]
    show skip ((d + 1) + 1) _ = _
    rw [skip_enc x (d + 1) _ h.1, skip_enc y d r h.2]
  | .forOne x y, d, r, h => by
    show skip (d + 1) (3 :: ((enc x ++ enc y) ++ r)) = _
    rw [skip_cons, if_neg (by decide), if_neg (by decide), if_pos (by decide), List.append_assoc]
    show skip ((d + 1) + 1) _ = _
    rw [skip_enc x (d + 1) _ h.1, skip_enc y d r h.2]
  | .sealed x y, d, r, h => by
    show skip (d + 1) (6 :: ((enc x ++ enc y) ++ r)) = _
    rw [skip_cons, if_neg (by decide), if_neg (by decide), if_pos (by decide), List.append_assoc]
    show skip ((d + 1) + 1) _ = _
    rw [skip_enc x (d + 1) _ h.1, skip_enc y d r h.2]
/-- what is skipped is a term -/
theorem skip_some : ∀ (n : Nat) (d : Nat) (b s : Bytes), b.length ≤ n → skip (d + 1) b = some s → ∃ t r, b = enc t ++ r ∧ Wf t ∧ skip d r = some s
  | n, d, [], s, _, h => by rw [skip_nil] at h; cases h
  | 0, d, c :: r, s, hn, h => by simp at hn
  | n + 1, d, c :: r, s, hn, h => by
    have hr : r.length ≤ n := by simpa using hn
    rw [skip_cons] at h
    by_cases h0 : c = 0
    · rw [if_pos h0] at h
      cases r with
      | nil => cases h
      | cons a r' =>
        have h : (if a ≤ 15 then skip d r' else none) = some s := h
        by_cases ha : a ≤ 15
        · rw [if_pos ha] at h
          exact ⟨.name a, r', by rw [h0]; rfl, by show a < 16; omega, h⟩
        · rw [if_neg ha] at h; cases h
    · rw [if_neg h0] at h
      by_cases h7 : c = 7
      · rw [if_pos h7] at h
        cases r with
        | nil => cases h
        | cons a r' =>
          have h : (if a ≤ 3 then skip d r' else none) = some s := h
          by_cases ha : a ≤ 3
          · rw [if_pos ha] at h
            exact ⟨.unknown a, r', by rw [h7]; rfl, by show a < 4; omega, h⟩
          · rw [if_neg ha] at h; cases h
      · rw [if_neg h7] at h
        by_cases hc : c ≤ 7
        · rw [if_pos hc] at h
          have hcc : c = 1 ∨ c = 2 ∨ c = 3 ∨ c = 4 ∨ c = 5 ∨ c = 6 := by omega
          have two : inner c = 2 → ∃ x y r1, r = (enc x ++ enc y) ++ r1 ∧ Wf x ∧ Wf y ∧ skip d r1 = some s := fun e => by
            rw [e] at h
            obtain ⟨x, r1, e1, w1, k1⟩ := skip_some n (d + 1) r s hr h
            have hl : r1.length ≤ n := by
              have := congrArg List.length e1
              rw [List.length_append] at this
              omega
            obtain ⟨y, r2, e2, w2, k2⟩ := skip_some n d r1 s hl k1
            exact ⟨x, y, r2, by rw [e1, e2, List.append_assoc], w1, w2, k2⟩
          have one : inner c = 1 → ∃ x r1, r = enc x ++ r1 ∧ Wf x ∧ skip d r1 = some s := fun e => by
            rw [e] at h
            exact skip_some n d r s hr h
          rcases hcc with e | e | e | e | e | e <;> subst e
          · obtain ⟨x, y, r1, e, w1, w2, k⟩ := two rfl
            exact ⟨.pair x y, r1, by rw [e]; rfl, ⟨w1, w2⟩, k⟩
          · obtain ⟨x, y, r1, e, w1, w2, k⟩ := two rfl
            exact ⟨.locked x y, r1, by rw [e]; rfl, ⟨w1, w2⟩, k⟩
          · obtain ⟨x, y, r1, e, w1, w2, k⟩ := two rfl
            exact ⟨.forOne x y, r1, by rw [e]; rfl, ⟨w1, w2⟩, k⟩
          · obtain ⟨x, r1, e, w1, k⟩ := one rfl
            exact ⟨.print x, r1, by rw [e]; rfl, w1, k⟩
          · obtain ⟨x, r1, e, w1, k⟩ := one rfl
            exact ⟨.own x, r1, by rw [e]; rfl, w1, k⟩
          · obtain ⟨x, y, r1, e, w1, w2, k⟩ := two rfl
            exact ⟨.sealed x y, r1, by rw [e]; rfl, ⟨w1, w2⟩, k⟩
        · rw [if_neg hc] at h; cases h
theorem skip_one {b s : Bytes} (h : skip 1 b = some s) : ∃ t, b = enc t ++ s ∧ Wf t ∧ termOf b = some (t, s) := by
  obtain ⟨t, r, e, w, k⟩ := skip_some b.length 0 b s (Nat.le_refl _) h
  rw [skip_zero] at k
  cases k
  exact ⟨t, e, w, by rw [e]; exact termOf_enc w⟩
theorem skip_none {b : Bytes} (h : skip 1 b = none) : termOf b = none := by
  cases e : termOf b with
  | none => rfl
  | some p =>
    obtain ⟨t, r⟩ := p
    obtain ⟨e1, w⟩ := termOf_some e
    rw [e1, skip_enc t 0 r w, skip_zero] at h
    cases h

/-! a term's unknowns, by walking its bytes -/
def scan : Bytes → List Nat
  | [] => []
  | [_] => []
  | c :: a :: r => if c = 7 then a :: scan r else if c = 0 then scan r else scan (a :: r)
theorem scan_two (c a : Nat) (r : Bytes) : scan (c :: a :: r) = if c = 7 then a :: scan r else if c = 0 then scan r else scan (a :: r) := by
  conv => lhs; unfold scan
theorem scan_step {c : Nat} {l : Bytes} (h0 : c ≠ 0) (h7 : c ≠ 7) (hl : 0 < l.length) : scan (c :: l) = scan l := by
  cases l with
  | nil => simp at hl
  | cons a r => rw [scan_two, if_neg h7, if_neg h0]
theorem scan_enc : ∀ (t : Term) (r : Bytes), scan (enc t ++ r) = unknowns t ++ scan r
  | .name a, r => by
    show scan (0 :: a :: r) = _
    rw [scan_two, if_neg (by decide), if_pos rfl]; rfl
  | .unknown a, r => by
    show scan (7 :: a :: r) = _
    rw [scan_two, if_pos rfl]; rfl
  | .print x, r => by
    show scan (4 :: (enc x ++ r)) = _
    rw [scan_step (by decide) (by decide) (by rw [List.length_append]; have := enc_pos x; omega), scan_enc x r]; rfl
  | .own x, r => by
    show scan (5 :: (enc x ++ r)) = _
    rw [scan_step (by decide) (by decide) (by rw [List.length_append]; have := enc_pos x; omega), scan_enc x r]; rfl
  | .pair x y, r => by
    show scan (1 :: ((enc x ++ enc y) ++ r)) = (unknowns x ++ unknowns y) ++ _
    rw [scan_step (by decide) (by decide) (by simp only [List.length_append]; have := enc_pos x; omega), List.append_assoc, scan_enc x, scan_enc y, List.append_assoc]
  | .locked x y, r => by
    show scan (2 :: ((enc x ++ enc y) ++ r)) = (unknowns x ++ unknowns y) ++ _
    rw [scan_step (by decide) (by decide) (by simp only [List.length_append]; have := enc_pos x; omega), List.append_assoc, scan_enc x, scan_enc y, List.append_assoc]
  | .forOne x y, r => by
    show scan (3 :: ((enc x ++ enc y) ++ r)) = (unknowns x ++ unknowns y) ++ _
    rw [scan_step (by decide) (by decide) (by simp only [List.length_append]; have := enc_pos x; omega), List.append_assoc, scan_enc x, scan_enc y, List.append_assoc]
  | .sealed x y, r => by
    show scan (6 :: ((enc x ++ enc y) ++ r)) = (unknowns x ++ unknowns y) ++ _
    rw [scan_step (by decide) (by decide) (by simp only [List.length_append]; have := enc_pos x; omega), List.append_assoc, scan_enc x, scan_enc y, List.append_assoc]
theorem scan_enc0 (t : Term) : scan (enc t) = unknowns t := by
  have := scan_enc t []
  rw [List.append_nil] at this
  rw [this]
  show unknowns t ++ [] = _
  rw [List.append_nil]
/-! the talk, read step by step -/
def wt : Nat → Bytes → Option (List Term × Bytes)
  | 0, b => some ([], b)
  | k + 1, b => (termOf b).bind fun x => if whole x.1 = true then (wt k x.2).map fun l => (x.1 :: l.1, l.2) else none
theorem wt_eq : ∀ (k : Nat) (b : Bytes), wt k b = (terms k b).bind fun l => if l.1.all whole = true then some l else none
  | 0, b => rfl
  | k + 1, b => by
    show ((termOf b).bind fun x => if whole x.1 = true then (wt k x.2).map fun l => (x.1 :: l.1, l.2) else none) = ((termOf b).bind fun x => (terms k x.2).map fun l => (x.1 :: l.1, l.2)).bind _
    cases termOf b with
    | none => rfl
    | some x =>
      show (if whole x.1 = true then (wt k x.2).map fun l => (x.1 :: l.1, l.2) else none) = ((terms k x.2).map fun l => (x.1 :: l.1, l.2)).bind _
      rw [wt_eq k x.2]
      cases terms k x.2 with
      | none => by_cases h : whole x.1 = true <;> simp [h]
      | some l => by_cases h : whole x.1 = true <;> by_cases h2 : l.1.all whole = true <;> simp [h, h2]
def okFrom (got : List Nat) : List Event → Bool
  | [] => true
  | e :: r => if e.kind = 0 then okFrom (got ++ unknowns e.term) r else (unknowns e.term).all (fun v => got.contains v) && okFrom got r
def ev : List Nat → Nat → Bytes → Option (List Event × Bytes)
  | _, 0, b => some ([], b)
  | _, _ + 1, [] => none
  | got, k + 1, d :: r => if d ≤ 3 then (termOf r).bind fun x =>
      if d = 0 then (ev (got ++ unknowns x.1) k x.2).map fun l => ((⟨d, x.1⟩ : Event) :: l.1, l.2)
      else if (unknowns x.1).all (fun v => got.contains v) = true then (ev got k x.2).map fun l => ((⟨d, x.1⟩ : Event) :: l.1, l.2) else none
    else none
theorem events_cons (k d : Nat) (r : Bytes) : events (k + 1) (d :: r) = if d ≤ 3 then (termOf r).bind fun x => (events k x.2).map fun l => ((⟨d, x.1⟩ : Event) :: l.1, l.2) else none := rfl
theorem parts_cons (k c : Nat) (r : Bytes) : parts (k + 1) (c :: r) = if c ≤ 6 then (events c r).bind fun x => (parts k x.2).map fun l => (x.1 :: l.1, l.2) else none := rfl
theorem ev_eq : ∀ (k : Nat) (got : List Nat) (b : Bytes), ev got k b = (events k b).bind fun l => if okFrom got l.1 = true then some l else none
  | 0, got, b => rfl
  | k + 1, got, [] => rfl
  | k + 1, got, d :: r => by
    rw [events_cons]
    unfold ev
    by_cases hd : d ≤ 3
    · rw [if_pos hd, if_pos hd]
      cases termOf r with
      | none => rfl
      | some x =>
        show (if d = 0 then _ else _) = ((events k x.2).map fun l => ((⟨d, x.1⟩ : Event) :: l.1, l.2)).bind _
        by_cases h0 : d = 0
        · rw [if_pos h0, ev_eq k _ x.2]
          cases events k x.2 with
          | none => rfl
          | some l =>
            by_cases h2 : okFrom (got ++ unknowns x.1) l.1 = true <;> simp [okFrom, h0, h2]
        · rw [if_neg h0, ev_eq k _ x.2]
          cases events k x.2 with
          | none => by_cases h1 : (unknowns x.1).all (fun v => got.contains v) = true <;> simp [h1]
          | some l =>
            by_cases h1 : (unknowns x.1).all (fun v => got.contains v) = true <;> by_cases h2 : okFrom got l.1 = true <;> simp only [okFrom, h0, h1, h2, if_true, if_false, Option.map_some, Option.bind_some, Bool.and_self, Bool.false_and, Bool.and_false, Bool.true_and, Option.map_none, Option.bind_none, Bool.false_eq_true]
            all_goals simp_all
    · rw [if_neg hd, if_neg hd]; rfl
def gots (l : List Event) : List Nat := l.flatMap fun d => if d.kind == 0 then unknowns d.term else []
theorem gots_any (v : Nat) : ∀ l : List Event, (l.any fun d => d.kind == 0 && (unknowns d.term).contains v) = (gots l).contains v
  | [] => rfl
  | d :: r => by
    rw [List.any_cons, gots_any v r]
    show _ = ((if d.kind == 0 then unknowns d.term else []) ++ gots r).contains v
    cases h : d.kind == 0 with
    | true => simp
    | false => simp
theorem got_gen : ∀ (l pre : List Event), ((l.zipIdx pre.length).all fun e => e.1.kind == 0 || (unknowns e.1.term).all fun v => ((pre ++ l).take e.2).any fun d => d.kind == 0 && (unknowns d.term).contains v) = okFrom (gots pre) l
  | [], pre => rfl
  | e :: r, pre => by
    rw [List.zipIdx_cons, List.all_cons]
    have ih := got_gen r (pre ++ [e])
    have e1 : (pre ++ [e]).length = pre.length + 1 := by simp
    have e2 : (pre ++ [e]) ++ r = pre ++ e :: r := by simp
    have e3 : ((pre ++ e :: r).take pre.length) = pre := by simp
    have e4 : gots (pre ++ [e]) = gots pre ++ (if e.kind == 0 then unknowns e.term else []) := by simp [gots]
    rw [e1, e2] at ih
    rw [ih, e4]
    show ((e.kind == 0 || (unknowns e.term).all fun v => (((pre ++ e :: r).take pre.length).any fun d => d.kind == 0 && (unknowns d.term).contains v)) && _) = _
    rw [e3]
    have e5 : (fun v => pre.any fun d => d.kind == 0 && (unknowns d.term).contains v) = fun v => (gots pre).contains v := by
      funext v
      exact gots_any v pre
    rw [e5]
    by_cases h : e.kind = 0
    · simp [okFrom, h]
    · have h' : (e.kind == 0) = false := by simp [h]
      rw [h']
      simp only [okFrom, if_neg h, Bool.false_or, Bool.false_eq_true, if_false, List.append_nil]
theorem gotBefore_eq (l : List Event) : gotBefore l = okFrom [] l := got_gen l []
def pt : Nat → Bytes → Option (List (List Event) × Bytes)
  | 0, b => some ([], b)
  | _ + 1, [] => none
  | k + 1, c :: r => if c ≤ 6 then (ev [] c r).bind fun x => (pt k x.2).map fun l => (x.1 :: l.1, l.2) else none
theorem pt_eq : ∀ (k : Nat) (b : Bytes), pt k b = (parts k b).bind fun l => if l.1.all gotBefore = true then some l else none
  | 0, b => rfl
  | k + 1, [] => rfl
  | k + 1, c :: r => by
    rw [parts_cons]
    unfold pt
    by_cases hc : c ≤ 6
    · rw [if_pos hc, if_pos hc, ev_eq]
      cases events c r with
      | none => rfl
      | some x =>
        show (if okFrom [] x.1 = true then some x else none).bind _ = ((parts k x.2).map fun l => (x.1 :: l.1, l.2)).bind _
        cases hp : parts k x.2 with
        | none =>
          by_cases h : okFrom [] x.1 = true
          · rw [if_pos h]
            show (pt k x.2).map _ = _
            rw [pt_eq k x.2, hp]; rfl
          · rw [if_neg h]; rfl
        | some l =>
          have e1 : ((x.1 :: l.1).all gotBefore) = (okFrom [] x.1 && l.1.all gotBefore) := by rw [List.all_cons, gotBefore_eq]
          show _ = (if (x.1 :: l.1).all gotBefore = true then some (x.1 :: l.1, l.2) else none)
          rw [e1]
          by_cases h : okFrom [] x.1 = true
          · rw [if_pos h]
            show (pt k x.2).map _ = _
            rw [pt_eq k x.2, hp, h, Bool.true_and]
            show (if l.1.all gotBefore = true then some l else none).map _ = _
            by_cases h2 : l.1.all gotBefore = true
            · rw [if_pos h2, if_pos h2]; rfl
            · rw [if_neg h2, if_neg h2]; rfl
          · rw [if_neg h]
            have h' : okFrom [] x.1 = false := by simpa using h
            rw [h', Bool.false_and]; rfl
    · rw [if_neg hc, if_neg hc]; rfl
def tk (b : Bytes) : Option Talk := (counted 0 8 wt b).bind fun k => (counted 1 4 pt k.2).bind fun p => (counted 0 4 wt p.2).bind fun s => if s.2 = [] then some ⟨k.1, p.1, s.1⟩ else none
theorem counted_bind {α : Type} {lo hi : Nat} {f g : Nat → Bytes → Option (α × Bytes)} {p : α × Bytes → Bool} (h : ∀ k b, f k b = (g k b).bind fun l => if p l = true then some l else none) (b : Bytes) :
    counted lo hi f b = (counted lo hi g b).bind fun l => if p l = true then some l else none := by
  cases b with
  | nil => rfl
  | cons c r =>
    show (if lo ≤ c ∧ c ≤ hi then f c r else none) = (if lo ≤ c ∧ c ≤ hi then g c r else none).bind _
    by_cases hc : lo ≤ c ∧ c ≤ hi
    · rw [if_pos hc, if_pos hc, h]
    · rw [if_neg hc, if_neg hc]; rfl
theorem tk_eq (b : Bytes) : tk b = talk b := by
  unfold tk talk
  rw [counted_bind (p := fun l => l.1.all whole) wt_eq b]
  cases counted 0 8 terms b with
  | none => rfl
  | some k =>
    show (if k.1.all whole = true then some k else none).bind _ = (counted 1 4 parts k.2).bind _
    by_cases hk : k.1.all whole = true
    · rw [if_pos hk]
      show (counted 1 4 pt k.2).bind _ = _
      rw [counted_bind (p := fun l => l.1.all gotBefore) pt_eq k.2]
      cases counted 1 4 parts k.2 with
      | none => rfl
      | some p =>
        show (if p.1.all gotBefore = true then some p else none).bind _ = (counted 0 4 terms p.2).bind _
        by_cases hp : p.1.all gotBefore = true
        · rw [if_pos hp]
          show (counted 0 4 wt p.2).bind _ = _
          rw [counted_bind (p := fun l => l.1.all whole) wt_eq p.2]
          cases counted 0 4 terms p.2 with
          | none => rfl
          | some s =>
            show (if s.1.all whole = true then some s else none).bind _ = (if s.2 = [] ∧ k.1.all whole = true ∧ s.1.all whole = true ∧ p.1.all gotBefore = true then some (⟨k.1, p.1, s.1⟩ : Talk) else none)
            by_cases hs : s.1.all whole = true
            · rw [if_pos hs]
              show (if s.2 = [] then some _ else none) = _
              by_cases h2 : s.2 = []
              · rw [if_pos h2, if_pos ⟨h2, hk, hs, hp⟩]
              · rw [if_neg h2, if_neg fun z => h2 z.1]
            · rw [if_neg hs, if_neg fun z => hs z.2.2.1]; rfl
        · rw [if_neg hp]
          cases counted 0 4 terms p.2 with
          | none => rfl
          | some s =>
            show _ = (if s.2 = [] ∧ k.1.all whole = true ∧ s.1.all whole = true ∧ p.1.all gotBefore = true then some (⟨k.1, p.1, s.1⟩ : Talk) else none)
            rw [if_neg fun z => hp z.2.2.2]; rfl
    · rw [if_neg hk]
      cases counted 1 4 parts k.2 with
      | none => rfl
      | some p =>
        show _ = (counted 0 4 terms p.2).bind _
        cases counted 0 4 terms p.2 with
        | none => rfl
        | some s =>
          show _ = (if s.2 = [] ∧ k.1.all whole = true ∧ s.1.all whole = true ∧ p.1.all gotBefore = true then some (⟨k.1, p.1, s.1⟩ : Talk) else none)
          rw [if_neg fun z => hk z.2.1]; rfl
end Tw

namespace Tw
open Sa91
/-- a term's first bytes, then its parts -/
def lead : Term → List Nat
  | .name a => [0, a]
  | .pair _ _ => [1]
  | .locked _ _ => [2]
  | .forOne _ _ => [3]
  | .print _ => [4]
  | .own _ => [5]
  | .sealed _ _ => [6]
  | .unknown v => [7, v]
def kids : Term → List Term
  | .name _ => []
  | .pair x y => [x, y]
  | .locked x y => [x, y]
  | .forOne x y => [x, y]
  | .print x => [x]
  | .own x => [x]
  | .sealed x y => [x, y]
  | .unknown _ => []
def self_ : Term → List Nat
  | .unknown v => [v]
  | _ => []
theorem enc_lead (t : Term) : enc t = lead t ++ (kids t).flatMap enc := by cases t <;> simp [enc, lead, kids]
theorem unk_kids (t : Term) : unknowns t = self_ t ++ (kids t).flatMap unknowns := by cases t <;> simp [unknowns, self_, kids]
theorem kids_wf {t x : Term} (h : Wf t) (hx : x ∈ kids t) : Wf x := by
  cases t <;> simp [kids] at hx <;> simp [Wf] at h
  all_goals first
    | (rcases hx with rfl | rfl; exact h.1; exact h.2)
    | (subst hx; exact h)
/-- the byte that a term begins with -/
def head : Term → Nat
  | .name _ => 0
  | .pair _ _ => 1
  | .locked _ _ => 2
  | .forOne _ _ => 3
  | .print _ => 4
  | .own _ => 5
  | .sealed _ _ => 6
  | .unknown _ => 7
theorem head_le (t : Term) : head t ≤ 7 := by cases t <;> simp [head]
theorem lead_head (t : Term) : (lead t)[0]? = some (head t) := by cases t <;> rfl
theorem lead_len (t : Term) : (lead t).length = if inner (head t) = 0 then 2 else 1 := by cases t <;> rfl
theorem head7 {t : Term} (h : head t = 7) : ∃ v, t = .unknown v := by
  cases t <;> simp [head] at h
  exact ⟨_, rfl⟩
theorem self_not7 {t : Term} (h : head t ≠ 7) : self_ t = [] := by
  cases t <;> simp [head, self_] at h ⊢
theorem inner_le (c : Nat) : inner c ≤ 2 := by
  unfold inner
  match c with
  | 0 => decide
  | 1 => decide
  | 2 => decide
  | 3 => decide
  | 4 => decide
  | 5 => decide
  | 6 => decide
  | 7 => decide
  | n + 8 => simp
/-- few that differ -/
theorem nodup_lt : ∀ (n : Nat) (l : List Nat), l.Nodup → (∀ x ∈ l, x < n) → l.length ≤ n
  | 0, l, _, h => by
    cases l with
    | nil => exact Nat.le_refl _
    | cons a r => exact absurd (h a (List.mem_cons_self)) (Nat.not_lt_zero _)
  | n + 1, l, nd, h => by
    by_cases hm : n ∈ l
    · have e := List.length_erase_of_mem hm
      have k := nodup_lt n (l.erase n) (nd.erase n) fun x hx => by
        have h1 := h x (List.mem_of_mem_erase hx)
        have h2 : x ≠ n := fun z => nd.not_mem_erase (z ▸ hx)
        omega
      have hp : 0 < l.length := List.length_pos_of_mem hm
      omega
    · have k := nodup_lt n l nd fun x hx => by
        have h1 := h x hx
        have h2 : x ≠ n := fun z => hm (z ▸ hx)
        omega
      omega
theorem unk_lt : ∀ {t : Term} {v : Nat}, Wf t → v ∈ unknowns t → v < 4
  | .name _, v, _, hv => by simp [unknowns] at hv
  | .unknown u, v, h, hv => by
    simp [unknowns] at hv
    subst hv
    exact h
  | .print x, v, h, hv => unk_lt (t := x) h hv
  | .own x, v, h, hv => unk_lt (t := x) h hv
  | .pair x y, v, h, hv => (List.mem_append.mp hv).elim (unk_lt h.1) (unk_lt h.2)
  | .locked x y, v, h, hv => (List.mem_append.mp hv).elim (unk_lt h.1) (unk_lt h.2)
  | .forOne x y, v, h, hv => (List.mem_append.mp hv).elim (unk_lt h.1) (unk_lt h.2)
  | .sealed x y, v, h, hv => (List.mem_append.mp hv).elim (unk_lt h.1) (unk_lt h.2)
theorem whole_iff {t : Term} : whole t = true ↔ unknowns t = [] := by
  unfold whole
  exact List.isEmpty_iff
/-! turns of the reading loops -/
theorem wt_end {c : Nat} {b r : Bytes} {ts : List Term} (h : wt c b = (wt 0 r).map fun l => (ts ++ l.1, l.2)) : wt c b = some (ts, r) := by
  rw [h]
  show some (ts ++ [], r) = _
  rw [List.append_nil]
theorem wt_none {c k : Nat} {b r : Bytes} {ts : List Term} (h : wt c b = (wt (k + 1) r).map fun l => (ts ++ l.1, l.2)) (ht : termOf r = none) : wt c b = none := by
  rw [h]
  unfold wt
  rw [ht]
  rfl
theorem wt_bad {c k : Nat} {b r r2 : Bytes} {ts : List Term} {t : Term} (h : wt c b = (wt (k + 1) r).map fun l => (ts ++ l.1, l.2)) (ht : termOf r = some (t, r2)) (hw : unknowns t ≠ []) : wt c b = none := by
  rw [h]
  unfold wt
  rw [ht]
  show ((if whole t = true then _ else none) : Option _).map _ = none
  rw [if_neg fun z => hw (whole_iff.mp z)]
  rfl
theorem wt_next {c k : Nat} {b r r2 : Bytes} {ts : List Term} {t : Term} (h : wt c b = (wt (k + 1) r).map fun l => (ts ++ l.1, l.2)) (ht : termOf r = some (t, r2)) (hw : unknowns t = []) :
    wt c b = (wt k r2).map fun l => ((ts ++ [t]) ++ l.1, l.2) := by
  rw [h]
  conv => lhs; unfold wt
  rw [ht]
  show ((if whole t = true then (wt k r2).map fun l => (t :: l.1, l.2) else none) : Option _).map _ = _
  rw [if_pos (whole_iff.mpr hw)]
  cases wt k r2 with
  | none => rfl
  | some l =>
    show some (ts ++ t :: l.1, l.2) = some ((ts ++ [t]) ++ l.1, l.2)
    rw [List.append_assoc]
    rfl
theorem ev_end {got : List Nat} {c : Nat} {b r : Bytes} {es : List Event} (h : ev [] c b = (ev got 0 r).map fun l => (es ++ l.1, l.2)) : ev [] c b = some (es, r) := by
  rw [h]
  show some (es ++ [], r) = _
  rw [List.append_nil]
theorem ev_nil {got : List Nat} {c k : Nat} {b : Bytes} {es : List Event} (h : ev [] c b = (ev got (k + 1) []).map fun l => (es ++ l.1, l.2)) : ev [] c b = none := by
  rw [h]
  rfl
theorem ev_kind {got : List Nat} {c k d : Nat} {b r : Bytes} {es : List Event} (h : ev [] c b = (ev got (k + 1) (d :: r)).map fun l => (es ++ l.1, l.2)) (hd : 3 < d) : ev [] c b = none := by
  rw [h]
  unfold ev
  rw [if_neg (by omega)]
  rfl
theorem ev_term {got : List Nat} {c k d : Nat} {b r : Bytes} {es : List Event} (h : ev [] c b = (ev got (k + 1) (d :: r)).map fun l => (es ++ l.1, l.2)) (ht : termOf r = none) : ev [] c b = none := by
  rw [h]
  unfold ev
  rw [ht]
  by_cases hd : d ≤ 3
  · rw [if_pos hd]
    rfl
  · rw [if_neg hd]
    rfl
theorem ev_bad {got : List Nat} {c k d v : Nat} {b r r2 : Bytes} {es : List Event} {t : Term} (h : ev [] c b = (ev got (k + 1) (d :: r)).map fun l => (es ++ l.1, l.2)) (ht : termOf r = some (t, r2)) (hd : d ≠ 0) (hv : v ∈ unknowns t) (hg : v ∉ got) : ev [] c b = none := by
  rw [h]
  unfold ev
  rw [ht]
  by_cases h3 : d ≤ 3
  · rw [if_pos h3]
    show ((if d = 0 then _ else if (unknowns t).all (fun v => got.contains v) = true then _ else none) : Option _).map _ = none
    rw [if_neg hd, if_neg]
    · rfl
    · intro z
      have z2 := List.all_eq_true.mp z v hv
      exact hg (by simpa using z2)
  · rw [if_neg h3]
    rfl
theorem ev_gets {got : List Nat} {c k : Nat} {b r r2 : Bytes} {es : List Event} {t : Term} (h : ev [] c b = (ev got (k + 1) (0 :: r)).map fun l => (es ++ l.1, l.2)) (ht : termOf r = some (t, r2)) :
    ev [] c b = (ev (got ++ unknowns t) k r2).map fun l => ((es ++ [(⟨0, t⟩ : Event)]) ++ l.1, l.2) := by
  rw [h]
  conv => lhs; unfold ev
  rw [ht]
  show (((ev (got ++ unknowns t) k r2).map fun l => ((⟨0, t⟩ : Event) :: l.1, l.2)) : Option _).map _ = _
  cases ev (got ++ unknowns t) k r2 with
  | none => rfl
  | some l =>
    show some (es ++ (⟨0, t⟩ : Event) :: l.1, l.2) = some ((es ++ [(⟨0, t⟩ : Event)]) ++ l.1, l.2)
    rw [List.append_assoc]
    rfl
theorem ev_next {got : List Nat} {c k d : Nat} {b r r2 : Bytes} {es : List Event} {t : Term} (h : ev [] c b = (ev got (k + 1) (d :: r)).map fun l => (es ++ l.1, l.2)) (ht : termOf r = some (t, r2)) (h3 : d ≤ 3) (hd : d ≠ 0) (hg : ∀ v ∈ unknowns t, v ∈ got) :
    ev [] c b = (ev got k r2).map fun l => ((es ++ [(⟨d, t⟩ : Event)]) ++ l.1, l.2) := by
  rw [h]
  conv => lhs; unfold ev
  rw [ht, if_pos h3]
  show ((if d = 0 then _ else if (unknowns t).all (fun v => got.contains v) = true then (ev got k r2).map fun l => ((⟨d, t⟩ : Event) :: l.1, l.2) else none) : Option _).map _ = _
  rw [if_neg hd, if_pos (List.all_eq_true.mpr fun v hv => by simpa using hg v hv)]
  cases ev got k r2 with
  | none => rfl
  | some l =>
    show some (es ++ (⟨d, t⟩ : Event) :: l.1, l.2) = some ((es ++ [(⟨d, t⟩ : Event)]) ++ l.1, l.2)
    rw [List.append_assoc]
    rfl
/-- one part -/
def evc : Bytes → Option (List Event × Bytes)
  | c :: r => if c ≤ 6 then ev [] c r else none
  | [] => none
theorem pt_end {c : Nat} {b r : Bytes} {ps : List (List Event)} (h : pt c b = (pt 0 r).map fun l => (ps ++ l.1, l.2)) : pt c b = some (ps, r) := by
  rw [h]
  show some (ps ++ [], r) = _
  rw [List.append_nil]
theorem pt_succ (k : Nat) (r : Bytes) : pt (k + 1) r = (evc r).bind fun x => (pt k x.2).map fun l => (x.1 :: l.1, l.2) := by
  cases r with
  | nil => rfl
  | cons c r =>
    show (if c ≤ 6 then _ else none) = ((if c ≤ 6 then ev [] c r else none) : Option _).bind _
    by_cases hc : c ≤ 6
    · rw [if_pos hc, if_pos hc]
    · rw [if_neg hc, if_neg hc]
      rfl
theorem pt_none {c k : Nat} {b r : Bytes} {ps : List (List Event)} (h : pt c b = (pt (k + 1) r).map fun l => (ps ++ l.1, l.2)) (ht : evc r = none) : pt c b = none := by
  rw [h, pt_succ, ht]
  rfl
theorem pt_next {c k : Nat} {b r r2 : Bytes} {ps : List (List Event)} {es : List Event} (h : pt c b = (pt (k + 1) r).map fun l => (ps ++ l.1, l.2)) (ht : evc r = some (es, r2)) :
    pt c b = (pt k r2).map fun l => ((ps ++ [es]) ++ l.1, l.2) := by
  rw [h, pt_succ, ht]
  show (((pt k r2).map fun l => (es :: l.1, l.2)) : Option _).map _ = _
  cases pt k r2 with
  | none => rfl
  | some l =>
    show some (ps ++ es :: l.1, l.2) = some ((ps ++ [es]) ++ l.1, l.2)
    rw [List.append_assoc]
    rfl
theorem pt_len : ∀ (k : Nat) (b : Bytes) (l : List (List Event)) (r : Bytes), pt k b = some (l, r) → l.length = k
  | 0, b, l, r, h => by
    cases h
    rfl
  | k + 1, b, l, r, h => by
    rw [pt_succ] at h
    cases e : evc b with
    | none => rw [e] at h; cases h
    | some x =>
      rw [e] at h
      have h : (pt k x.2).map (fun l => (x.1 :: l.1, l.2)) = some (l, r) := h
      cases e2 : pt k x.2 with
      | none => rw [e2] at h; cases h
      | some y =>
        rw [e2] at h
        cases h
        have := pt_len k x.2 y.1 y.2 (by rw [e2])
        show y.1.length + 1 = k + 1
        rw [this]
theorem tk_parts {b : Bytes} {t : Talk} (h : tk b = some t) : t.parts.length ≤ 4 := by
  unfold tk at h
  cases e1 : counted 0 8 wt b with
  | none => rw [e1] at h; cases h
  | some k =>
    rw [e1] at h
    have h : ((counted 1 4 pt k.2).bind fun p => (counted 0 4 wt p.2).bind fun s => if s.2 = [] then some (⟨k.1, p.1, s.1⟩ : Talk) else none) = some t := h
    cases e2 : counted 1 4 pt k.2 with
    | none => rw [e2] at h; cases h
    | some p =>
      rw [e2] at h
      have h : ((counted 0 4 wt p.2).bind fun s => if s.2 = [] then some (⟨k.1, p.1, s.1⟩ : Talk) else none) = some t := h
      cases e3 : counted 0 4 wt p.2 with
      | none => rw [e3] at h; cases h
      | some s =>
        rw [e3] at h
        have h : (if s.2 = [] then some (⟨k.1, p.1, s.1⟩ : Talk) else none) = some t := h
        have ep : t.parts = p.1 := by
          by_cases hs : s.2 = []
          · rw [if_pos hs] at h
            cases h
            rfl
          · rw [if_neg hs] at h
            cases h
        rw [ep]
        cases hk : k.2 with
        | nil => rw [hk] at e2; cases e2
        | cons c r =>
          rw [hk] at e2
          have e2 : (if 1 ≤ c ∧ c ≤ 4 then pt c r else none) = some p := e2
          by_cases hc : 1 ≤ c ∧ c ≤ 4
          · rw [if_pos hc] at e2
            rw [pt_len c r p.1 p.2 e2]
            exact hc.2
          · rw [if_neg hc] at e2
            cases e2
end Tw

set_option maxRecDepth 100000
set_option linter.all false
namespace L2
open PySem PySem.Spec PyProof.Rows

/-! ### exceptions of the text's own classes: how one lies behind a call -/
def CXe (P : Program) (w : World) : CXT := fun l H s E e s' => ∃ (x : Addr) (B : Heap) (cls a0 : Value) (H' : Hp),
  e = .ref x ∧ s'.os = s.os ∧ AllBare s'.gens ∧ Heap.FlyingW B l x cls a0 s'.heap ∧ HOk P w H' B ∧ Un (frs l) [] H H' s.heap s'.heap ∧
  (∀ b o, s.heap.get? b = some o → H b = none → b ∉ frs l → B.get? b = some o) ∧ (∀ b o, s.heap.get? b = some o → b ∉ frs l → ∃ o', B.get? b = some o') ∧ E cls none H'

/-- an exception with its entries, whatever the flight -/
def ExcSt (B : Heap) (l : List Env) (e : Addr) (cls a0 : Value) (h : Heap) : Prop := B.StaysIn h ∧ B.get? e = none ∧ h.FunFrames B l ∧ ∃ fl, h.TracedAtW B e cls a0 fl
theorem ExcSt.ofFly {B h : Heap} {l : List Env} {e : Addr} {cls a0 : Value} (x : Heap.FlyingW B l e cls a0 h) : ExcSt B l e cls a0 h := ⟨x.1, x.2.1, x.2.2.1, _, x.2.2.2.at⟩
theorem ExcSt.ofHeld {B h : Heap} {l : List Env} {e L : Addr} {cls a0 : Value} (x : Heap.HeldW B l e cls a0 L h) : ExcSt B l e cls a0 h := ⟨x.1, x.2.1, x.2.2.1, _, x.2.2.2⟩

section
variable {M : Model} {A : Around} {E : Value → Shared → Prop} {s : Shared} {B : Heap} {env : Env} {outer : List Env} {L e : Addr} {cls a0 : Value} {Q : Unit → Shared → Prop}
theorem note_st (hfr : A.frames = some (env :: outer)) (hf : env.frame = some L) (x : ExcSt B (env :: outer) e cls a0 s.heap)
    (hQ : ∀ h', Heap.HeldW B (env :: outer) e cls a0 L h' → s.heap.UpToSlots h' → Q () { s with heap := h' }) : wpAny M A (noteFrame (.ref e) env) Q E s := by
  obtain ⟨k1, k2, k3, fl, tr⟩ := x
  by_cases hfl : fl = rawInt L
  · subst hfl
    exact wpAny_noteFrame_againW hf tr (hQ s.heap ⟨k1, k2, k3, tr⟩ (.refl _))
  · obtain ⟨oe, vs, T, oT, ts, q0, ⟨hc, h0⟩, hd, h1, nT, Te, qT, dT, h3⟩ := tr
    subst hc
    unfold noteFrame
    simp only [hf]
    refine wpAny_bind (wpAny_field q0 hd h1 ?_)
    rw [if_pos (by simp : (Value.ref T != Value.none) = true)]
    refine wpAny_bind (wpAny_field qT dT h3 ?_)
    rw [if_neg (by simpa using hfl)]
    refine wpAny_bind (wpAny_setField qT dT (Array.getElem?_eq_some_iff.mp h3).1 ?_)
    have oth : ∀ b, b ≠ T → (s.heap.update T (Obj.mapFields fun a => a.setIfInBounds 3 Value.none)).get? b = s.heap.get? b := fun b hb => Heap.get?_update_other _ _ (Ne.symm hb)
    have ntr : ∀ b o, s.heap.get? b = some o → (∀ vs, o.data ≠ .fields vs) → b ≠ T := fun b o q nf z => by
      rw [z, qT] at q
      cases q
      exact nf ts dT
    refine wpAny_entryW hfr (k3.of_keeps fun b o q nf => ⟨o, (oth b (ntr b o q nf)).trans q, rfl⟩) hf ((oth e (Ne.symm Te)).trans q0) (fun b o q => (oth b fun z => by
      rw [z, nT] at q
      cases q).trans (k1 b o q)) k2 hd (Array.getElem?_eq_some_iff.mp h1).1 h0 fun h' n => ?_
    obtain ⟨n1, n2, n3, n4⟩ := n
    exact hQ h' ⟨n1, k2, n2, n3⟩ fun b o q nf => n4 b o ((oth b (ntr b o q nf)).trans q) nf
theorem leave_st (hfr : A.frames = some (env :: outer)) (hf : env.frame = some L) (x : ExcSt B (env :: outer) e cls a0 s.heap)
    (hQ : ∀ h', Heap.FlyingW B outer e cls a0 h' → s.heap.UpToSlots h' → Q () { s with heap := h' }) : wpAny M A (leaving env (.ref e)) Q E s := by
  unfold leaving
  refine wpAny_bind (note_st hfr hf x fun h' held up => ?_)
  refine wpAny_landsW held fun h2 fl up2 => ?_
  obtain ⟨a1, a2, ⟨_, _, a3⟩, a4⟩ := fl
  exact hQ h2 ⟨a1, a2, a3, a4⟩ (up.trans up2)
end

/-- what was there, behind one more station -/
theorem un_on {l : List Env} {g B h h1 h2 : Heap} {H H' : Hp} (u : Un (frs l) [] H H' h h1) (fr : h.FunFrames g l) (ff : ∀ b ∈ frs l, H b = none) (kB : ∀ b o, h.get? b = some o → H b = none → b ∉ frs l → B.get? b = some o)
    (tB : ∀ b o, h.get? b = some o → b ∉ frs l → ∃ o', B.get? b = some o') (st : B.StaysIn h2) (up : h1.UpToSlots h2) : Un (frs l) [] H H' h h2 := by
  have slot : ∀ b o, h.get? b = some o → H b = none → b ∈ frs l → ∃ sl, h2.get? b = some { o with slots := sl } := fun b o q n hb => by
    obtain ⟨sl, e⟩ := u.slot b o q n hb (by simp)
    obtain ⟨_, o', q', nf⟩ := fr.mem hb
    rw [q] at q'
    cases q'
    obtain ⟨sl', e'⟩ := up b _ e nf
    exact ⟨sl', e'⟩
  refine ⟨fun b o q n hb _ => st b o (kB b o q n hb), fun b o q n hb _ => slot b o q n hb, u.free, fun b o q _ => ?_, u.tups, u.frzs, u.tbls⟩
  by_cases hb : b ∈ frs l
  · obtain ⟨sl, e⟩ := slot b o q (ff b hb) hb
    exact ⟨_, e⟩
  · obtain ⟨o', e⟩ := tB b o q hb
    exact ⟨o', st b o' e⟩

/-- an exception within a body, against the body's entry -/
structure ExcIn (X : Cx) (B : Heap) (H' : Hp) (s' : Shared) : Prop where
  un : Un X.fs X.ex X.H_0 H' X.s_0.heap s'.heap
  kB : ∀ b o, X.s_0.heap.get? b = some o → X.H_0 b = none → b ∉ X.fs → b ∉ X.ex → B.get? b = some o
  tB : ∀ b o, X.s_0.heap.get? b = some o → b ∉ X.fs → b ∉ X.ex → ∃ o', B.get? b = some o'
theorem Inv.excIn {X : Cx} {pins : List (Addr × Obj)} {σ : St} {H H' : Hp} {s s' : Shared} {B : Heap} (I : Inv X pins σ H s) (u : Un (frs X.stack) [] H H' s.heap s'.heap)
    (kB : ∀ b o, s.heap.get? b = some o → H b = none → b ∉ frs X.stack → B.get? b = some o) (tB : ∀ b o, s.heap.get? b = some o → b ∉ frs X.stack → ∃ o', B.get? b = some o') : ExcIn X B H' s' := by
  have nst : ∀ b o, X.s_0.heap.get? b = some o → b ∉ X.fs → b ∉ frs X.stack := fun b o q nb hb =>
    (List.mem_cons.mp (I.stkSub b hb)).elim (fun z => absurd (Heap.lt_size q) (by rw [z]; exact Nat.not_lt.mpr I.ok.above)) nb
  refine ⟨⟨fun b o q n hb hx => u.keep b o (I.base.keep b o q n hb hx) (I.base.free b o q n hx) (nst b o q hb) (by simp), fun b o q n hb hx => ?_, fun b o q n hx => ?_, fun b o q hx => ?_, fun b xs q => u.tups b xs (I.base.tups b xs q),
    fun b o xs q => u.frzs b o xs (I.base.frzs b o xs q), fun b ps q => ?_⟩, fun b o q n hb hx => kB b o (I.base.keep b o q n hb hx) (I.base.free b o q n hx) (nst b o q hb), fun b o q hb hx => ?_⟩
  · obtain ⟨sl, e⟩ := I.base.slot b o q n hb hx
    obtain ⟨sl2, e2⟩ := u.any e (I.base.free b o q n hx) (by simp)
    exact ⟨sl2, e2⟩
  · obtain ⟨o', e⟩ := I.base.there b o q hx
    exact u.free b o' e (I.base.free b o q n hx) (by simp)
  · obtain ⟨o', e⟩ := I.base.there b o q hx
    exact u.there b o' e (by simp)
  · obtain ⟨m1, e1⟩ := I.base.tbls b ps q
    obtain ⟨m2, e2⟩ := u.tbls b _ e1
    exact ⟨m1 ++ m2, by rw [e2, Array.append_assoc]⟩
  · obtain ⟨o', e⟩ := I.base.there b o q hx
    exact tB b o' e (nst b o q hb)

section
variable {P : Program} {w : World} {K : PySem.W.Frag} {mg : Str → Option Value} {base : Heap} {N : List Str} {qual : Str} {scope : Scope} {f : Addr} {cd : Value} {A : Around} {outer : List Env} {s : Shared} {H : Hp} {E : XK}
/-- out of a def's body -/
theorem leave_def {B : Heap} {H' : Hp} {s' : Shared} {x : Addr} {cls a0 : Value} (ok : (cxOf (CXe P w) P w K mg base N qual scope f cd A outer s H E).Ok) (i : ExcIn (cxOf (CXe P w) P w K mg base N qual scope f cd A outer s H E) B H' s')
    (st : ExcSt B (cxOf (CXe P w) P w K mg base N qual scope f cd A outer s H E).stack x cls a0 s'.heap) (hok : HOk P w H' B) (os : s'.os = s.os) (bare : AllBare s'.gens) (hE : E cls none H') :
    (cxOf (CXe P w) P w K mg base N qual scope f cd A outer s H E).xe (.ref x) s' := by
  refine leave_st ok.frames rfl st fun h' fl up => ?_
  have kB : ∀ b o, s.heap.get? b = some o → H b = none → b ∉ frs outer → B.get? b = some o := fun b o q n hb => i.kB b o q n hb (fun z => absurd (show b ∈ ([] : List Addr) from z) (by simp))
  have tB : ∀ b o, s.heap.get? b = some o → b ∉ frs outer → ∃ o', B.get? b = some o' := fun b o q hb => i.tB b o q hb (fun z => absurd (show b ∈ ([] : List Addr) from z) (by simp))
  exact ⟨x, B, cls, a0, H', rfl, os, bare, fl, hok, un_on (h1 := s'.heap) i.un ok.funs ok.frf kB tB fl.1 up, kB, tB, hE⟩
/-- a callee's exception passes on -/
theorem passW {E' : XK} (hE : ∀ c o H', E' c o H' → E c o H') : Passes (CXe P w) (cxOf (CXe P w) P w K mg base N qual scope f cd A outer s H E) E' := by
  intro pins σ H1 s1 e s' I h
  obtain ⟨x, B, cls, a0, H', rfl, hos, hb, fl, hok, un, kB, tB, q⟩ := h
  exact leave_def I.ok (I.excIn un kB tB) (ExcSt.ofFly fl) hok (hos.trans I.os) hb (hE _ _ _ q)
theorem passE : Passes (CXe P w) (cxOf (CXe P w) P w K mg base N qual scope f cd A outer s H E) E := passW fun _ _ _ h => h
theorem powE : PassesOwn (model P w) (cxOf (CXe P w) P w K mg base N qual scope f cd A outer s H E).A (cxOf (CXe P w) P w K mg base N qual scope f cd A outer s H E).env (cxOf (CXe P w) P w K mg base N qual scope f cd A outer s H E).xe := PassesOwn.leaving
end

/-- what the text's written part knows of an own error class -/
theorem exc_obj {K : PySem.W.Frag} {h : Heap} {C : Addr} {bmB : List Value} {newId : String} (X : K.In h) (q : PySem.W.excIn K C bmB newId = true) :
    ∃ bm N nm qn bs hdct sn sub ab col dd k0 k1 k2 k3 k5 mN, h.get? C = some (excClassObj nm qn C N bs bm hdct sn sub ab col dd k0 k1 k2 k3 k5 newId) ∧ h.Ns N mN ∧ mN "__init__" = none ∧ OwnTail h bmB bm := by
  unfold PySem.W.excIn at q
  split at q
  case h_2 => cases q
  case h_1 dd cd sl ho =>
    split at q
    case h_2 => cases q
    case h_1 C2 bm k0 k1 k2 k3 n k5 hm hs =>
      simp only [Bool.and_eq_true, beq_iff_eq, Bool.not_eq_true'] at q
      obtain ⟨⟨⟨⟨⟨e1, e2⟩, e3⟩, e4⟩, e5⟩, e6⟩ := q
      subst e1 e2
      obtain ⟨nm, bs, mro, ns, qn, hd, sn, sub, ab, col, del⟩ := cd
      dsimp only at hm e3 e5 e6
      subst hm e3
      have e7 : sl = #[k0, k1, k2, k3, some (.builtin n), k5] := by
        obtain ⟨l⟩ := sl
        simp only at hs
        rw [hs]
      subst e7
      exact ⟨bm, ns, nm, qn, bs, hd, sn, sub, ab, col, dd, k0, k1, k2, k3, k5, _, X _ _ ho, .of_isNs (PySem.W.isNs_of_in X e5), PySem.W.nsMap_none_of_in X e5 e6, PySem.W.tail_of_in X e4⟩

abbrev bmExc : List Value := [.type "Exception", .type "BaseException", .type "object"]
section
variable {P : Program} {w : World} {K : PySem.W.Frag} {mg : Str → Option Value} {base : Heap} {N : List Str} {qual : Str} {scope : Scope} {f : Addr} {cd : Value} {A : Around} {outer : List Env} {s : Shared} {H : Hp} {E : XK}
/-- raise C() -/
def tRaise (E : XK) (C : Addr) : TS := fun _ _ H' => E (.ref C) none H'
theorem ps_raise {x : Str} {C : Addr} {np cpos pos : Pos} (hg : Gl (cxOf (CXe P w) P w K mg base N qual scope f cd A outer s H E) x) (hm : mg x = some (.ref C)) (hx : PySem.W.excIn K C bmExc "Exception.__new__" = true)
    (hd : (x == ("__debug__" : Str)) = false := by decide) :
    PS (cxOf (CXe P w) P w K mg base N qual scope f cd A outer s H E) (.Raise (some (.Call (.Name x np) [] [] cpos)) none pos) (tRaise E C) := by
  intro pins s1 σ H1 D I h
  obtain ⟨bm, Ns, nm, qn, bs, hdct, sn, sub, ab, col, dd, k0, k1, k2, k3, k5, mN, hC, hN, hni, T⟩ := exc_obj I.kIn hx
  have FB := PySem.F.excBase_Exception
  refine wpAny_Raise_call_subT (C := C) (nm := nm) (q := qn) (N := Ns) (bs := bs) (bm := bm) (hdct := hdct) (sn := sn) (sub := sub) (ab := ab) (col := col) (dd := dd) (k0 := k0) (k1 := k1) (k2 := k2) (k3 := k3) (k5 := k5)
    FB (mN := mN) (T.hasType FB.hasBase) (I.ok.hd rfl) rfl hni (ld_glob I hg hm ⟨rfl, evalArgs_empty ⟨rfl, Nat.zero_le _, hC, hN, T, fun h' e mx => ?_⟩⟩ hd)
  have hin : ∀ en ∈ (cxOf (CXe P w) P w K mg base N qual scope f cd A outer s H E).stack, ∀ a, en.frame = some a → a ∈ frs (cxOf (CXe P w) P w K mg base N qual scope f cd A outer s H E).stack := fun en he a ha => List.mem_filterMap.mpr ⟨en, he, ha⟩
  have st : (PySem.W.hideAll s1.heap (frs (cxOf (CXe P w) P w K mg base N qual scope f cd A outer s H E).stack)).StaysIn s1.heap := fun b o q => PySem.W.of_hideAll _ q
  have i : ExcIn (cxOf (CXe P w) P w K mg base N qual scope f cd A outer s H E) (PySem.W.hideAll s1.heap (frs (cxOf (CXe P w) P w K mg base N qual scope f cd A outer s H E).stack)) H1 { s1 with heap := h' } :=
    I.excIn (Un.kept mx.keeps) (fun b o q _ hb => PySem.W.hideAll_get _ q hb) fun b o q hb => ⟨o, PySem.W.hideAll_get _ q hb⟩
  have hok : HOk P w H1 (PySem.W.hideAll s1.heap (frs (cxOf (CXe P w) P w K mg base N qual scope f cd A outer s H E).stack)) := fun a o q =>
    (I.hok a o q).stay (fun b u hb e1 => PySem.W.hideAll_get _ e1 fun hm => by
      have z := I.stkFree b hm
      rcases hb with e2 | e2
      · rw [e2, q] at z
        cases z
      · rw [e2] at z
        cases z) (fun _ z => z) fun _ _ z => z
  refine wpAny_leaves_madeW (outer := outer) I.ok.frames rfl st (PySem.W.funFrames_hide I.stack hin) mx fun h2 t fl _ _ up => ?_
  have kB : ∀ b o, s.heap.get? b = some o → H b = none → b ∉ frs outer → (PySem.W.hideAll s1.heap (frs (cxOf (CXe P w) P w K mg base N qual scope f cd A outer s H E).stack)).get? b = some o := fun b o q n hb => i.kB b o q n hb (fun z => absurd (show b ∈ ([] : List Addr) from z) (by simp))
  have tB : ∀ b o, s.heap.get? b = some o → b ∉ frs outer → ∃ o', (PySem.W.hideAll s1.heap (frs (cxOf (CXe P w) P w K mg base N qual scope f cd A outer s H E).stack)).get? b = some o' := fun b o q hb => i.tB b o q hb (fun z => absurd (show b ∈ ([] : List Addr) from z) (by simp))
  exact ⟨e, _, .ref C, .ref t, H1, rfl, I.os, I.bare, fl, hok, un_on (h1 := h') i.un I.ok.funs I.ok.frf kB tB fl.1 up, kB, tB, h⟩
/-- THE RULE for a def that may raise -/
theorem Fun.okE {x qual : Str} {st : Stmt} {f : Addr} {fd : FuncData} {N ps : List Str} {k : Nat} {sp : Sp} (F : Fun K x qual st f fd) (S : FnScope N ps (defScope st)) (len : ∀ vs H Q E, sp vs H Q E → vs.length = ps.length)
    (hbody : ∀ (cdv : Value) (A : Around) (outer : List Env) (s : Shared) (H : Hp) (vs : List V) (Q : VK) (E : XK), Room k (A.deeper (envOfC qual (defScope st) s.heap.objs.size f cdv)) → sp vs H Q E →
      ∃ t, PSs (cxOf (CXe P w) P w K mg base N qual (defScope st) f cdv A outer s H E) (defBody st) t ∧ t { nx := fun _ H' => Q .non H', rt := Q } (start N vs) H) : FnOk P w K mg base (CXe P w) (k + 1) f fd ps sp := by
  obtain ⟨oc, od, kV, doc, pm, an, cdv, ct, osl, rfl, lk, hcd⟩ := F.ex
  exact fn_of lk hcd S len fun A outer s H vs Q E hr hsp => hbody cdv A outer s H vs Q E hr hsp
end

/-! ### try: body, two clauses without a name; nothing leaves the whole -/
abbrev Cx.inTry (X : Cx) (E : Value → Shared → Prop) (pn : List (Addr × Obj)) : Cx := { X with xe := E, pn := pn }
abbrev Cx.inClause (X : Cx) (e : Value) : Cx := { X with A := X.A.mark (some e), calm := false }
theorem Cx.Ok.inTry {X : Cx} (ok : X.Ok) (E : Value → Shared → Prop) (pn : List (Addr × Obj)) : (X.inTry E pn).Ok :=
  ⟨ok.mod, ok.kind, ok.glob, ok.blt, ok.above, ok.inj, ok.has, ok.cab, ok.hd, ok.frames, ok.stk, ok.exf, ok.bs, ok.bsz, ok.noex, ok.exfs, ok.funs, ok.frf⟩
theorem Cx.Ok.ofTry {X : Cx} {E : Value → Shared → Prop} {pn : List (Addr × Obj)} (ok : (X.inTry E pn).Ok) : X.Ok :=
  ⟨ok.mod, ok.kind, ok.glob, ok.blt, ok.above, ok.inj, ok.has, ok.cab, ok.hd, ok.frames, ok.stk, ok.exf, ok.bs, ok.bsz, ok.noex, ok.exfs, ok.funs, ok.frf⟩
theorem Cx.Ok.inClause {X : Cx} (ok : X.Ok) (e : Value) : (X.inClause e).Ok :=
  ⟨ok.mod, ok.kind, ok.glob, ok.blt, ok.above, ok.inj, ok.has, ok.cab, fun z => absurd (show (false : Bool) = true from z) (by simp), ok.frames, ok.stk, ok.exf, ok.bs, ok.bsz, ok.noex, ok.exfs, ok.funs, ok.frf⟩
theorem Cx.Ok.ofClause {X : Cx} {e : Value} (hd : X.calm = true → X.A.handled = none) (ok : (X.inClause e).Ok) : X.Ok :=
  ⟨ok.mod, ok.kind, ok.glob, ok.blt, ok.above, ok.inj, ok.has, ok.cab, hd, ok.frames, ok.stk, ok.exf, ok.bs, ok.bsz, ok.noex, ok.exfs, ok.funs, ok.frf⟩
section
variable {X : Cx} {pins : List (Addr × Obj)} {σ : St} {H : Hp} {s : Shared} {E : Value → Shared → Prop}
theorem Inv.inTry (I : Inv X pins σ H s) (E : Value → Shared → Prop) : Inv (X.inTry E (X.pn ++ pins)) [] σ H s :=
  ⟨I.ok.inTry E _, I.os, I.bare, I.base, I.loc, I.cell, I.free, I.freeC, fun p hp => I.pin p (by rw [List.append_nil] at hp; exact hp), I.hok, I.len⟩
theorem Inv.ofTry {qs : List (Addr × Obj)} (I : Inv (X.inTry E (X.pn ++ pins)) qs σ H s) : Inv X pins σ H s :=
  ⟨I.ok.ofTry, I.os, I.bare, I.base, I.loc, I.cell, I.free, I.freeC, fun p hp => I.pin p (List.mem_append_left _ hp), I.hok, I.len⟩
theorem Inv.inClause (I : Inv X pins σ H s) (e : Value) : Inv (X.inClause e) pins σ H s := ⟨I.ok.inClause e, I.os, I.bare, I.base, I.loc, I.cell, I.free, I.freeC, I.pin, I.hok, I.len⟩
theorem Inv.ofClause {e : Value} (hd : X.calm = true → X.A.handled = none) (I : Inv (X.inClause e) pins σ H s) : Inv X pins σ H s := ⟨I.ok.ofClause hd, I.os, I.bare, I.base, I.loc, I.cell, I.free, I.freeC, I.pin, I.hok, I.len⟩
theorem SP.ofTry {D : Ends} {fl : Flow} (h : SP (X.inTry E (X.pn ++ pins)) [] D fl s) : SP X pins D fl s := by
  cases fl with
  | next => obtain ⟨σ', H', I, q⟩ := h; exact ⟨σ', H', I.ofTry, q⟩
  | brk => obtain ⟨σ', H', I, q⟩ := h; exact ⟨σ', H', I.ofTry, q⟩
  | cont => obtain ⟨σ', H', I, q⟩ := h; exact ⟨σ', H', I.ofTry, q⟩
  | ret u => obtain ⟨v, σ', H', I, r, q⟩ := h; exact ⟨v, σ', H', I.ofTry, r, q⟩
theorem SP.ofClause {e : Value} {D : Ends} {fl : Flow} (hd : X.calm = true → X.A.handled = none) (h : SP (X.inClause e) pins D fl s) : SP X pins D fl s := by
  cases fl with
  | next => obtain ⟨σ', H', I, q⟩ := h; exact ⟨σ', H', I.ofClause hd, q⟩
  | brk => obtain ⟨σ', H', I, q⟩ := h; exact ⟨σ', H', I.ofClause hd, q⟩
  | cont => obtain ⟨σ', H', I, q⟩ := h; exact ⟨σ', H', I.ofClause hd, q⟩
  | ret u => obtain ⟨v, σ', H', I, r, q⟩ := h; exact ⟨v, σ', H', I.ofClause hd, r, q⟩
end
section
variable {X : Cx}
def blank (X : Cx) : St := List.replicate X.N.length none
theorem blank_none {X : Cx} {i : Nat} {v : V} (h : (blank X)[i]? = some (some v)) : False := by
  unfold blank at h
  rw [List.getElem?_replicate] at h
  split at h <;> cases h
/-- one clause: taken if the class is just this one -/
theorem clause_at {pins : List (Addr × Obj)} {H' : Hp} {s : Shared} {x : Addr} {B : Heap} {cls a0 c : Value} {n : Str} {np pos : Pos} {b0 : Stmt} {suite : List Stmt} {rest : List ExceptHandler} {t : TS} {D : Ends} {b : Bool}
    (hd : X.calm = true → X.A.handled = none) (hxe : X.xe = fun _ _ => False) (hstk : X.stack = X.env :: X.outer)
    (I : Inv X pins (blank X) H' s) (fl : Heap.FlyingW B X.stack x cls a0 s.heap) (kH : HOk X.prog X.w H' B)
    (kB : ∀ a o, X.s_0.heap.get? a = some o → X.H_0 a = none → a ∉ X.fs → a ∉ X.ex → B.get? a = some o)
    (hg : Gl X n) (hm : X.mg n = some c) (hc : PySem.W.exmOne X.K cls c = some b) (hdb : (n == ("__debug__" : Str)) = false)
    (hs : PSs (X.inClause (.ref x)) (b0 :: suite) t)
    (yes : b = true → t D (blank X) H') (no : b = false → wpAny (model X.prog X.w) X.A (handleBy (.ref x) X.env rest) (SP X pins D) X.xe s)
    (after : ∀ h', Heap.FlyingW B X.stack x cls a0 h' → s.heap.UpToSlots h' → Inv X pins (blank X) H' { s with heap := h' }) :
    wpAny (model X.prog X.w) X.A (handleBy (.ref x) X.env (.ExceptHandler (some (.Name n np)) none (b0 :: suite) pos :: rest)) (SP X pins D) X.xe s := by
  obtain ⟨ob, hob, hoc⟩ := fl.there
  have ty : PySem.W.Looks (model X.prog X.w) s.heap (typeOf (.ref x)) cls := by
    subst hoc
    exact (PySem.W.Looks.ld hob).andThen .now
  refine wpAny_handleBy_cons (codeAny_handlers_test ?_) (by intro q; cases q)
  refine ld_glob (X := X.inClause (.ref x)) (I.inClause _) hg hm ?_ hdb
  refine (PySem.W.exm_one I.kIn ty hc).here ?_
  cases b with
  | false => exact no rfl
  | true =>
    refine codeAny_handlers_suite ?_
    refine lands_againW fl fun h' fl' up => ?_
    refine wpAny_mono (hs pins { s with heap := h' } (blank X) H' D ((after h' fl' up).inClause _) (yes rfl)) (fun f s2 q => q.ofClause hd) fun e2 s2 z => ?_
    have z' : X.xe e2 s2 := z
    rw [hxe] at z'
    exact z'.elim
/-- try: .. except C1: .. except C2: .. -/
def tTry2 (C1 C2 : Addr) (st : St) (tb : XK → TS) (t1 t2 : TS) : TS := fun D σ H => tb (fun cls _ H' => (cls = .ref C1 ∧ t1 D st H') ∨ (cls = .ref C2 ∧ t2 D st H')) D σ H
theorem ps_try2 {body : List Stmt} {n1 n2 : Str} {p1 p2 q1 q2 pos : Pos} {b1 b2 : Stmt} {s1 s2 : List Stmt} {C1 C2 : Addr} {tb : XK → TS} {t1 t2 : TS} (hxe : X.xe = fun _ _ => False) (hcalm : X.calm = true) (hex : X.ex = []) (hstk : X.stack = X.env :: X.outer) (hfr : X.env.frame = some X.env.locals)
    (hb : ∀ (E' : Value → Shared → Prop) (pn : List (Addr × Obj)) (Et : XK), Passes (CXe X.prog X.w) (X.inTry E' pn) Et → PSs (X.inTry E' pn) body (tb Et))
    (h1 : ∀ e, PSs (X.inClause e) (b1 :: s1) t1) (h2 : ∀ e, PSs (X.inClause e) (b2 :: s2) t2)
    (g1 : Gl X n1) (m1 : X.mg n1 = some (.ref C1)) (g2 : Gl X n2) (m2 : X.mg n2 = some (.ref C2))
    (c11 : PySem.W.exmOne X.K (.ref C1) (.ref C1) = some true) (c21 : PySem.W.exmOne X.K (.ref C2) (.ref C1) = some false) (c22 : PySem.W.exmOne X.K (.ref C2) (.ref C2) = some true)
    (d1 : (n1 == ("__debug__" : Str)) = false := by decide) (d2 : (n2 == ("__debug__" : Str)) = false := by decide) :
    PS X (.Try body [.ExceptHandler (some (.Name n1 p1)) none (b1 :: s1) q1, .ExceptHandler (some (.Name n2 p2)) none (b2 :: s2) q2] [] [] pos) (tTry2 C1 C2 (blank X) tb t1 t2) := by
  intro pins s σ H D I h
  refine wpAny_Try_except ?_
  have run := hb (fun e s₁ => wpAny (model X.prog X.w) X.A (noteFrame e X.env) (fun _ s₂ => wpAny (model X.prog X.w) X.A (setFlight e none) (fun _ s₃ =>
      wpAny (model X.prog X.w) X.A (handleBy e X.env [.ExceptHandler (some (.Name n1 p1)) none (b1 :: s1) q1, .ExceptHandler (some (.Name n2 p2)) none (b2 :: s2) q2]) (SP X pins D) X.xe s₃) X.xe s₂) X.xe s₁) (X.pn ++ pins)
    (fun cls _ H' => (cls = .ref C1 ∧ t1 D (blank X) H') ∨ (cls = .ref C2 ∧ t2 D (blank X) H')) ?_
  · refine wpAny_mono (run [] s σ H D (I.inTry _) h) (fun fl s3 q => ?_) fun _ _ z => z
    have q' := q.ofTry
    cases fl with
    | next => exact wpAny_execs_nil q'
    | brk => exact q'
    | cont => exact q'
    | ret u => exact q'
  · intro qs σ2 H2 s2' e s' I2 hc
    have I2' : Inv X pins σ2 H2 s2' := I2.ofTry
    obtain ⟨x, B, cls, a0, H', rfl, hos, hbr, fl, hok, un, kB, tB, hE⟩ := hc
    have fl : Heap.FlyingW B X.stack x cls a0 s'.heap := fl
    have un : Un (frs X.stack) [] H2 H' s2'.heap s'.heap := un
    have kB : ∀ b o, s2'.heap.get? b = some o → H2 b = none → b ∉ frs X.stack → B.get? b = some o := kB
    have tB : ∀ b o, s2'.heap.get? b = some o → b ∉ frs X.stack → ∃ o', B.get? b = some o' := tB
    have i := I2'.excIn un kB tB
    have fr2 : X.A.frames = some (X.env :: X.outer) := by rw [← hstk]; exact I2'.ok.frames
    have aft : ∀ h', B.StaysIn h' → s'.heap.UpToSlots h' → Inv X pins (blank X) H' { s' with heap := h' } := fun h' st up => by
      have u2 := un_on un I2'.stack I2'.stkFree kB tB st up
      have I3 : Inv X pins σ2 H' { s' with heap := h' } := I2'.call' (ch := []) hos u2 (hok.kept st) hbr fun _ z => nomatch z
      exact I3.weak (by rw [I3.len]; unfold blank; rw [List.length_replicate]) fun j v z => (blank_none z).elim
    have xst : ExcSt B (X.env :: X.outer) x cls a0 s'.heap := by rw [← hstk]; exact ExcSt.ofFly fl
    show wpAny (model X.prog X.w) X.A (noteFrame (.ref x) X.env) _ _ s'
    refine note_st fr2 hfr xst fun h4 held up4 => ?_
    refine wpAny_landsW held fun h5 fl5 up5 => ?_
    have fl5 : Heap.FlyingW B X.stack x cls a0 h5 := by rw [hstk]; exact fl5
    have I5 := aft h5 fl5.1 (up4.trans up5)
    have hd : X.calm = true → X.A.handled = none := I2'.ok.hd
    have aft5 : ∀ h', Heap.FlyingW B X.stack x cls a0 h' → h5.UpToSlots h' → Inv X pins (blank X) H' { s' with heap := h' } := fun h' f6 up6 => aft h' f6.1 ((up4.trans up5).trans up6)
    rcases hE with ⟨rfl, ht⟩ | ⟨rfl, ht⟩
    · exact clause_at (s := { s' with heap := h5 }) hd hxe hstk I5 fl5 hok i.kB g1 m1 c11 d1 (h1 _) (fun _ => ht) (fun z => by cases z) aft5
    · refine clause_at (s := { s' with heap := h5 }) hd hxe hstk I5 fl5 hok i.kB g1 m1 c21 d1 (h1 _) (fun z => by cases z) (fun _ => ?_) aft5
      exact clause_at (s := { s' with heap := h5 }) hd hxe hstk I5 fl5 hok i.kB g2 m2 c22 d2 (h2 _) (fun _ => ht) (fun z => by cases z) aft5
end
end L2

set_option maxRecDepth 100000
set_option linter.all false
namespace L2
open PySem PySem.Spec PyProof.Rows

/-- what leaves the body of X: an exception in any flight reaches X's wish -/
def LvOk (X : Cx) (E : XK) : Prop := ∀ (B : Heap) (H' : Hp) (s' : Shared) (x : Addr) (cls a0 : Value), X.Ok → ExcIn X B H' s' → ExcSt B X.stack x cls a0 s'.heap → HOk X.prog X.w H' B → s'.os = X.s_0.os → AllBare s'.gens → E cls none H' → X.xe (.ref x) s'
theorem lvDef {P : Program} {w : World} {K : PySem.W.Frag} {mg : Str → Option Value} {base : Heap} {N : List Str} {qual : Str} {scope : Scope} {f : Addr} {cd : Value} {A : Around} {outer : List Env} {s : Shared} {H : Hp} {E : XK} :
    LvOk (cxOf (CXe P w) P w K mg base N qual scope f cd A outer s H E) E := fun _ _ _ _ _ _ ok i st hok os bare hE => leave_def ok i st hok os bare hE
theorem noteFrame_fr {e : Value} {env env' : Env} (h : env.frame = env'.frame) : noteFrame e env = noteFrame e env' := by
  unfold noteFrame PySem.frameOf
  rw [h]
theorem funFrames_on {g h h' : Heap} : ∀ {l : List Env}, (∀ b ∈ frs l, ∀ o, h.get? b = some o → (∀ vs, o.data ≠ .fields vs) → ∃ o', h'.get? b = some o' ∧ o'.data = o.data) → h.FunFrames g l → h'.FunFrames g l
  | [], _, _ => trivial
  | env :: r, k, ⟨hk, ⟨L, o, hf, hn, ho, hd⟩, hr⟩ => by
    have mL : L ∈ frs (env :: r) := List.mem_filterMap.mpr ⟨env, .head _, hf⟩
    obtain ⟨o', ho', hd'⟩ := k L mL o ho hd
    refine ⟨hk, ⟨L, o', hf, hn, ho', fun vs => hd' ▸ hd vs⟩, funFrames_on (fun b hb => k b ?_) hr⟩
    obtain ⟨en, he, hf'⟩ := List.mem_filterMap.mp hb
    exact List.mem_filterMap.mpr ⟨en, .tail _ he, hf'⟩
theorem ExcIn.on {X : Cx} {B B2 : Heap} {H' : Hp} {s' : Shared} {h2 : Heap} (i : ExcIn X B H' s') (ok : X.Ok) (k2 : ∀ b o, b < X.s_0.heap.objs.size → B.get? b = some o → B2.get? b = some o) (st : B2.StaysIn h2)
    (up : ∀ b ∈ X.fs, ∀ o, s'.heap.get? b = some o → (∀ vs, o.data ≠ .fields vs) → ∃ sl, h2.get? b = some { o with slots := sl }) : ExcIn X B2 H' { s' with heap := h2 } := by
  have slot : ∀ b o, X.s_0.heap.get? b = some o → X.H_0 b = none → b ∈ X.fs → b ∉ X.ex → ∃ sl, h2.get? b = some { o with slots := sl } := fun b o q n hb hx => by
    obtain ⟨sl, e⟩ := i.un.slot b o q n hb hx
    obtain ⟨_, o', q', nf⟩ := ok.funs.mem hb
    rw [q] at q'
    cases q'
    obtain ⟨sl', e'⟩ := up b hb _ e nf
    exact ⟨sl', e'⟩
  refine ⟨⟨fun b o q n hb hx => st b o (k2 b o (Heap.lt_size q) (i.kB b o q n hb hx)), slot, i.un.free, fun b o q hx => ?_, i.un.tups, i.un.frzs, i.un.tbls⟩, fun b o q n hb hx => k2 b o (Heap.lt_size q) (i.kB b o q n hb hx), fun b o q hb hx => ?_⟩
  · by_cases hb : b ∈ X.fs
    · obtain ⟨sl, e⟩ := slot b o q (ok.frf b hb) hb hx
      exact ⟨_, e⟩
    · obtain ⟨o', e⟩ := i.tB b o q hb hx
      exact ⟨o', st b o' (k2 b o' (Heap.lt_size q) e)⟩
  · obtain ⟨o', e⟩ := i.tB b o q hb hx
    exact ⟨o', k2 b o' (Heap.lt_size q) e⟩
/-- an exception of a comprehension's element leaves the block -/
theorem comp_out {X : Cx} {pins : List (Addr × Obj)} {σ : St} {H : Hp} {s s' : Shared} {E : XK} {e : Value} {ce : Env} {C : Addr} {m : Str → Option Value} {use : Option (Value → Sem Unit)} {Qf : Value → Shared → Prop} {v : Value}
    (I : Inv X pins σ H s) (hstk : X.stack = X.env :: X.outer) (hfr : X.env.frame = some X.env.locals) (out : LvOk X E) (cF : ce.frame = X.env.frame) (hlt : ∀ b ∈ frs X.stack, b < C) (hsz : X.s_0.heap.objs.size ≤ C) (nC : H C = none) (hn : s.heap.Ns C m)
    (hc : CXe X.prog X.w X.stack H s E e s') : notedBy (model X.prog X.w) X.A ce (fun e s' => compPost (model X.prog X.w) X.A X.xe use Qf v C (.error e) s') e s' := by
  obtain ⟨x, B, cls, a0, H', rfl, hos, hbr, fl, hok, un, kB, tB, q⟩ := hc
  have i := I.excIn un kB tB
  have fr2 : X.A.frames = some (X.env :: X.outer) := by rw [← hstk]; exact I.ok.frames
  have xst : ExcSt B (X.env :: X.outer) x cls a0 s'.heap := by rw [← hstk]; exact ExcSt.ofFly fl
  unfold notedBy
  rw [noteFrame_fr cF]
  refine note_st fr2 hfr xst fun h4 held up4 => ?_
  rw [← hstk] at held
  obtain ⟨oC, es, ep, qC, dC, rC⟩ := hn
  have nCs : C ∉ frs X.stack := fun z => absurd (hlt C z) (Nat.lt_irrefl _)
  have qB : B.get? C = some oC := kB C oC qC nC nCs
  have nC' : H' C = none := un.free C oC qC nC (by simp)
  show ∃ m, h4.Ns C m ∧ ∀ h', Heap.SameBut C h4 h' → ∀ cenv : Env, cenv.locals = C → wpAny (model X.prog X.w) X.A (PySem.passOn "comprehension.variables-let-go" (.ref x) cenv : Sem Value) (fun _ _ => False) X.xe { s' with heap := h' }
  refine ⟨m, ⟨oC, es, ep, held.1 _ _ qB, dC, rC⟩, fun h6 sb cenv _ => ?_⟩
  obtain ⟨k1, k2, k3, oe, vs, T, oT, ts, q0, hcl, hd, h1, nT, Te, qT, dT, h3⟩ := held
  have q4C : h4.get? C = some oC := k1 _ _ qB
  have neC : ∀ b ob (w : Array Value), h4.get? b = some ob → ob.data = .fields w → b ≠ C := fun b ob w e1 e2 z => by
    rw [z, q4C] at e1
    cases e1
    rw [dC] at e2
    cases e2
  have xC : x ≠ C := neC x oe vs q0 hd
  have TC : T ≠ C := neC T oT ts qT dT
  have q06 : h6.get? x = some oe := (sb.2 x xC).trans q0
  have qT6 : h6.get? T = some oT := (sb.2 T TC).trans qT
  have h3s : 3 < ts.size := (Array.getElem?_eq_some_iff.mp h3).1
  have fin : ∀ u : Value, X.xe (.ref x) { s' with heap := h6.update T (Obj.mapFields fun a => a.setIfInBounds 3 u) } := fun u => by
    have oth : ∀ b, b ≠ T → (h6.update T (Obj.mapFields fun a => a.setIfInBounds 3 u)).get? b = h6.get? b := fun b hb => Heap.get?_update_other _ _ (Ne.symm hb)
    have st : (PySem.W.hideAll B [C]).StaysIn (h6.update T (Obj.mapFields fun a => a.setIfInBounds 3 u)) := fun b o e1 => by
      have e2 := PySem.W.of_hideAll _ e1
      have bC : b ≠ C := fun z => by
        rw [z, PySem.W.hideAll_none [C] (.head _)] at e1
        cases e1
      have bT : b ≠ T := fun z => by
        rw [z, nT] at e2
        cases e2
      rw [oth b bT, sb.2 b bC]
      exact k1 b o e2
    have non : ∀ b, B.get? b = none → (PySem.W.hideAll B [C]).get? b = none := fun b hb => by
      cases e1 : (PySem.W.hideAll B [C]).get? b with
      | none => rfl
      | some o =>
        have e2 := PySem.W.of_hideAll _ e1
        rw [hb] at e2
        cases e2
    have nfr : ∀ b ∈ frs X.stack, ∀ o, h4.get? b = some o → (∀ vs, o.data ≠ .fields vs) → (h6.update T (Obj.mapFields fun a => a.setIfInBounds 3 u)).get? b = some o := fun b hb o e1 nf => by
      have bC : b ≠ C := fun z => nCs (by rw [← z]; exact hb)
      have bT : b ≠ T := fun z => by
        rw [z, qT] at e1
        cases e1
        exact nf ts dT
      rw [oth b bT, sb.2 b bC]
      exact e1
    have hfs : ∀ b ∈ X.fs, b ∈ frs X.stack := fun b hb => by
      rw [hstk]
      obtain ⟨en, he, hf'⟩ := List.mem_filterMap.mp hb
      exact List.mem_filterMap.mpr ⟨en, .tail _ he, hf'⟩
    refine out (PySem.W.hideAll B [C]) H' _ x cls a0 I.ok (i.on I.ok (fun b o hb e1 => PySem.W.hideAll_get _ e1 fun z => ?_) st fun b hb o e1 nf => ?_) ⟨st, non x k2, ?_, u, oe, vs, T, _, _, ?_, hcl, hd, h1, non T nT, Te, Heap.get?_update_self _ qT6 (Obj.isFreed_of_fields (Obj.data_mapFields dT _)), Obj.data_mapFields dT _, by simp [h3s]⟩ ?_ (hos.trans I.os) hbr q
    · have z' : b = C := by simpa using z
      rw [z'] at hb
      exact absurd (Nat.lt_of_lt_of_le hb hsz) (Nat.lt_irrefl _)
    · obtain ⟨sl, e2⟩ := up4 b o e1 nf
      exact ⟨sl, nfr b (hfs b hb) _ e2 nf⟩
    · exact funFrames_on (fun b hb o e1 nf => ⟨o, nfr b hb o e1 nf, rfl⟩) (PySem.W.funFrames_base (fun b o e1 => PySem.W.of_hideAll _ e1) k3)
    · rw [oth x (Ne.symm Te)]
      exact q06
    · exact fun a o e1 => (hok a o e1).stay (fun b ob hb e2 => PySem.W.hideAll_get _ e2 fun z => by
        have z' : b = C := by simpa using z
        subst z'
        rcases hb with e3 | e3
        · rw [e3, e1] at nC'
          cases nC'
        · rw [e3] at nC'
          cases nC') (fun _ z => z) fun _ _ z => z
  unfold PySem.passOn
  refine wpAny_bind (wpAny_field q06 hd h1 ?_)
  rw [if_neg (by simp : ¬ ((Value.ref T == Value.none) = true))]
  have go : ∀ fr : Option Addr, wpAny (model X.prog X.w) X.A (setFlight (.ref x) fr) (fun _ s2 => wpAny (model X.prog X.w) X.A (throw (.ref x) : Sem Value) (fun _ _ => False) X.xe s2) X.xe { s' with heap := h6 } := fun fr => by
    unfold setFlight
    refine wpAny_bind (wpAny_field q06 hd h1 ?_)
    rw [if_pos (by simp : (Value.ref T != Value.none) = true)]
    exact wpAny_setField qT6 dT h3s (wpAny_throw (fin _))
  first
    | exact wpAny_bind (wpAny_pure (wpAny_bind (go _)))
    | exact wpAny_bind (go _)
section
variable {X : Cx}
theorem lc_coreX {E : XK} {pins : List (Addr × Obj)} {s : Shared} {σ : St} {H : Hp} {Q : VK} {elt tg iter : Expr} {ifs : List Expr} {scope : Scope} {own : List (Str × Nat)} {pos pos' : Pos} {wi : TI} {g : TG} {tt : TT} {te : TE} {use : Option (Value → Sem Unit)} {Qf : Value → Shared → Prop}
    (hc : X.calm = true) (hN : X.N.Nodup) (I : Inv X pins σ H s) (hi : PI X tg iter wi) (ok : BlkOk X.N X.env.scope scope own)
    (hg : ∀ (s : Shared) (H : Hp) (C : Addr) (cl : List (Str × Addr)) (fp : List Addr), PG (X.blk s H scope (compEnvC scope cl C X.env) fp) tg g) (ht : ∀ (s : Shared) (H : Hp) (C : Addr) (cl : List (Str × Addr)) (fp : List Addr), PTs (X.blk s H scope (compEnvC scope cl C X.env) fp) ifs tt)
    (he : ∀ (s : Shared) (H : Hp) (C : Addr) (cl : List (Str × Addr)) (fp : List Addr) (Ey : Value → Shared → Prop), Passes (CXe X.prog X.w) ((X.blk s H scope (compEnvC scope cl C X.env) fp).wish Ey) E → PE ((X.blk s H scope (compEnvC scope cl C X.env) fp).wish Ey) elt te)
    (hstk : X.stack = X.env :: X.outer) (hfr : X.env.frame = some X.env.locals) (out : LvOk X E) (hs : ∀ x, foldedSetIterable iter X.env x = pure x)
    (h : tLc wi g tt te (own.map (·.2)) σ H Q)
    (hRR : ∀ D C s' m H', Inv X pins σ H' s' → Q (.ref D) H' → s'.heap.Ns C m → FpOk X pins H' C → compPost (model X.prog X.w) X.A X.xe use Qf (.ref D) C (.ok .next) s') :
    wpAny (model X.prog X.w) X.A (comprehension (.ListComp elt [⟨tg, iter, ifs, 0⟩] scope pos) scope X.env pos' (newList []) false (eval iter X.env) use) Qf X.xe s := by
  have hfree : ∀ y ∈ scope.names, y.2 = .free → ∃ c, X.env.cells.lookup y.1 = some c := fun y hy e => by
    rcases ok.free y hy e with k | k
    · exact I.ok.has _ (.inl k)
    · exact I.ok.has _ (.inr k)
  refine wpAny_comprehension_free (use := use) rfl hs (closure_ok hfree) ok.kind (fun y hy e => by rw [ok.uniq y hy, e])
    (thn (hi pins s σ H _ I h) fun xv s1 hx => thn hx fun itv s2 h2 => ?_)
  obtain ⟨it, fp, tn, J, H2, e, I2, T, st2, f2, q⟩ := h2
  subst e
  refine wpAny_newObj_type (newEnv_comp ?_) (by show 0 ≤ sizeLine; decide)
  generalize hD : s2.heap.objs.size = D
  have hDn : H2 D = none := I2.hok.fresh (Nat.le_of_eq hD)
  obtain ⟨W, ⟨m0, w0⟩, turn⟩ := q D hDn
  -- the new list
  generalize hs3 : ({ s2 with heap := s2.heap.push { cls := .type "list", data := .seq ([] : List Value).toArray } } : Shared) = s3
  have I3 : Inv X pins σ (upd H2 D (.lst [])) s3 := by
    rw [← hs3]
    refine I2.laid (t' := s2.toks) (fun b o e => Heap.get?_push_of_some _ e) (Nat.le_of_eq hD) ⟨Nat.zero_le _, [], 0, .nil, ?_⟩
    rw [← hD]
    exact Heap.get?_push_size _ rfl
  have h3 : s3.heap = s2.heap.push { cls := .type "list", data := .seq ([] : List Value).toArray } := by rw [← hs3]
  have sz : ∀ b ∈ fp, b < s2.heap.objs.size := fun b hb => by
    obtain ⟨o, e, _⟩ := T.obj _ _ st2 b hb
    exact Heap.lt_size e
  have f3 : ∀ b ∈ fp, FpOk X pins (upd H2 D (.lst [])) b ∧ b < s3.heap.objs.size := fun b hb => by
    have hlt := sz b hb
    refine ⟨⟨?_, (f2 b hb).2⟩, by rw [h3, Heap.size_push]; exact Nat.lt_succ_of_lt hlt⟩
    rw [upd_ne (by rw [← hD]; exact Nat.ne_of_lt hlt)]
    exact (f2 b hb).1
  have st3 : tn 0 s3.heap := T.keep _ _ _ st2 fun b _ o e => by rw [h3]; exact Heap.get?_push_of_some _ e
  have I4 := block_start I3 ok hN f3
  have pg := hg s3 (upd H2 D (.lst [])) s3.heap.objs.size (cellsFrom (s3.heap.objs.size + 1) scope.names (cloFrom X.env.cells scope.names [])) fp
  have pt := ht s3 (upd H2 D (.lst [])) s3.heap.objs.size (cellsFrom (s3.heap.objs.size + 1) scope.names (cloFrom X.env.cells scope.names [])) fp
  have pe := he s3 (upd H2 D (.lst [])) s3.heap.objs.size (cellsFrom (s3.heap.objs.size + 1) scope.names (cloFrom X.env.cells scope.names [])) fp
  show codeAny _ _ (.compStart (.ListComp elt [⟨tg, iter, ifs, 0⟩] scope pos) 0 (.ref it) (.ref D) (compEnvC scope (cellsFrom (s3.heap.objs.size + 1) scope.names (cloFrom X.env.cells scope.names [])) s3.heap.objs.size X.env)) (compPost (model X.prog X.w) X.A X.xe use Qf (.ref D) s3.heap.objs.size) { s3 with heap := pushCells (s3.heap.push { cls := .type "dict", data := .dict #[] }) scope.names }
  have nfp : ∀ b ∈ fp, (upd H2 D (.lst [])) b = none := fun b hb => (f3 b hb).1.1
  generalize hce : compEnvC scope (cellsFrom (s3.heap.objs.size + 1) scope.names (cloFrom X.env.cells scope.names [])) s3.heap.objs.size X.env = ce at I4 pg pt pe ⊢
  have cL : ce.locals = s3.heap.objs.size := by subst hce; rfl
  generalize hH3 : upd H2 D (.lst []) = H3 at I3 I4 pg pt pe w0 nfp f3
  generalize hs4 : ({ s3 with heap := pushCells (s3.heap.push { cls := .type "dict", data := .dict #[] }) scope.names } : Shared) = s4 at I4 ⊢
  have st4 : tn 0 s4.heap := T.keep _ _ _ st3 fun b _ o e => by rw [← hs4]; exact pushCells_keeps _ _ _ _ (Heap.get?_push_of_some _ e)
  have stat : ∀ {σ' : St} {H' : Hp} {s' : Shared}, Inv (X.blk s3 H3 scope ce fp) [] σ' H' s' → (∀ b ∈ fp, H' b = none) → ∀ b ∈ fp, FpOk (X.blk s3 H3 scope ce fp) [] H' b := fun {σ' H' s'} I' hn b hb =>
    ⟨hn b hb, (I'.ok.exf b hb).1, I'.ok.exfs b hb, .inl hb, fun x c e => (I'.ok.exf b hb).2 x c e, fun p hp => absurd (show p ∈ ([] : List (Addr × Obj)) ++ [] from hp) (by simp)⟩
  have cF : ce.frame = X.env.frame := by
    subst hce
    rfl
  have passY : Passes (CXe X.prog X.w) ((X.blk s3 H3 scope ce fp).wish (notedBy (model X.prog X.w) X.A ce fun e s' => compPost (model X.prog X.w) X.A X.xe use Qf (.ref D) s3.heap.objs.size (.error e) s')) E := by
    intro qs σ2 H2' s5 e s' I5 hcx
    have I6 := I5.unwish
    have I7 : Inv X pins σ H2' s5 := I3.call' (ch := fp) I6.os I6.base I6.hok I6.bare fun b hb => ⟨(f3 b hb).1.2.2.2.1, (f3 b hb).1.2.1, (f3 b hb).1.2.2.2.2.1, (f3 b hb).1.2.2.2.2.2⟩
    have nC : H2' s3.heap.objs.size = none := by
      have z : H2' ce.locals = none := I6.free
      rw [cL] at z
      exact z
    obtain ⟨m, hn, _⟩ := I6.loc
    have hn : s5.heap.Ns ce.locals m := hn
    rw [cL] at hn
    exact comp_out I7 hstk hfr out cF (fun b hb => by
      obtain ⟨_, o, ho, _⟩ := I3.stack.mem hb
      exact Heap.lt_size ho) I3.sz nC hn hcx
  have loop : codeAny (model X.prog X.w) X.A (.compLoop (.ListComp elt [⟨tg, iter, ifs, 0⟩] scope pos) 0 (.ref it) (.ref D) ce) (compPost (model X.prog X.w) X.A X.xe use Qf (.ref D) s3.heap.objs.size) s4 := by
    refine compLoop_any (fun n s' => ∃ i H', Inv (X.blk s3 H3 scope ce fp) [] (wipe σ (own.map (·.2))) H' s' ∧ tn i s'.heap ∧ (∀ b ∈ fp, H' b = none) ∧ W i n H') ?_ m0 ⟨0, H3, I4, st4, nfp, w0⟩
    rintro n s5 ⟨i, H5, I5, st5, n5, w5⟩
    rcases turn i n H5 w5 with ⟨stop, qq⟩ | ⟨go, Nx, hNx, step⟩
    · have td := T.done (X.blk s3 H3 scope ce fp) rfl rfl rfl hc i [] s5 _ H5 (fun _ _ => False) I5 (stat I5 n5) st5 stop
      refine thnF td fun r s6 ⟨hr, I6⟩ => ?_
      subst hr
      -- back in the def's context
      have I7 : Inv X pins σ H5 s6 := I3.call' (ch := fp) I6.os I6.base I6.hok I6.bare fun b hb => ⟨(f3 b hb).1.2.2.2.1, (f3 b hb).1.2.1, (f3 b hb).1.2.2.2.2.1, (f3 b hb).1.2.2.2.2.2⟩
      have nC : H5 s3.heap.objs.size = none := by
        have z : H5 ce.locals = none := I6.free
        rw [cL] at z
        exact z
      obtain ⟨m, hn, _⟩ := I6.loc
      have hn : s6.heap.Ns ce.locals m := hn
      rw [cL] at hn
      exact hRR D s3.heap.objs.size s6 m H5 I7 qq hn (I3.fpOk (Nat.le_refl _) nC)
    · have ti := T.item (X.blk s3 H3 scope ce fp) rfl rfl rfl hc i [] s5 _ H5 (fun _ _ => False) I5 (stat I5 n5) st5 go
      refine thnF ti fun r s6 ⟨u, hr, h6⟩ => ?_
      subst hr
      refine thnF h6 fun _ s7 ⟨x, H7, I7, r7, y7, st7, n7⟩ => ?_
      have I7' := I7.pinned (stat I7 n7) (T.obj _ _ st7)
      refine thnF (pg _ s7 _ H7 x u _ I7' r7 (step x H7 y7)) fun _ s8 ⟨σ8, H8, I8, hw8, q8⟩ => ?_
      refine thnF (pt _ s8 σ8 H8 _ I8 q8) fun b s9 ⟨H9, I9, q9⟩ => ?_
      -- the turn's end
      have fin : ∀ {s' : Shared} {H' : Hp}, Inv (X.blk s3 H3 scope ce fp) ([] ++ pinsAt fp s7.heap) σ8 H' s' → Nx H' → ∃ m, m < n ∧ ∃ i H', Inv (X.blk s3 H3 scope ce fp) [] (wipe σ (own.map (·.2))) H' s' ∧ tn i s'.heap ∧ (∀ b ∈ fp, H' b = none) ∧ W i m H' := fun {s' H'} I' nx => by
        obtain ⟨m', hm, w'⟩ := hNx H' nx
        have pin' : ∀ b ∈ fp, ∀ o, s7.heap.get? b = some o → s'.heap.get? b = some o ∧ H' b = none := fun b hb o e =>
          let z := I'.pin (b, o) (List.mem_append_right _ (List.mem_append_right _ (mem_pinsAt hb e)))
          ⟨z.1, z.2.1⟩
        have hl : (wipe σ (own.map (·.2))).length = σ8.length := by rw [← hw8, wipe_length]
        refine ⟨m', hm, i + 1, H', (I'.unpinned (pins := [])).weak hl (fun j v e => ?_), T.keep _ _ _ st7 fun b hb o e => (pin' b hb o e).1, fun b hb => ?_, w'⟩
        · rw [← hw8] at e
          exact (wipe_some e).1
        · obtain ⟨o, e, _⟩ := T.obj _ _ st7 b hb
          exact (pin' b hb o e).2
      cases b with
      | false =>
        simp only [Bool.false_eq_true, if_false] at q9 ⊢
        exact fin I9 q9
      | true =>
        simp only [if_true] at q9 ⊢
        refine wpAny_mono (pe _ passY _ s9 σ8 H9 _ (I9.wish _) q9) (fun z s10 ⟨yv, H10, I10, r10, acc, hD10, hz10, nx⟩ => ?_) fun _ _ z => z
        exact app_ok (X := X.blk s3 H3 scope ce fp) I10.unwish hD10 hz10 r10 fun s11 I11 => fin I11 nx
  exact codeAny_compStart_list loop (T.self X.A 0 _ _ _ st4 loop)
theorem pe_lcX {E : XK} {elt tg iter : Expr} {ifs : List Expr} {scope : Scope} {own : List (Str × Nat)} {pos : Pos} {wi : TI} {g : TG} {tt : TT} {te : TE} (hc : X.calm = true) (hN : X.N.Nodup) (hi : PI X tg iter wi) (ok : BlkOk X.N X.env.scope scope own)
    (hg : ∀ (s : Shared) (H : Hp) (C : Addr) (cl : List (Str × Addr)) (fp : List Addr), PG (X.blk s H scope (compEnvC scope cl C X.env) fp) tg g) (ht : ∀ (s : Shared) (H : Hp) (C : Addr) (cl : List (Str × Addr)) (fp : List Addr), PTs (X.blk s H scope (compEnvC scope cl C X.env) fp) ifs tt)
    (he : ∀ (s : Shared) (H : Hp) (C : Addr) (cl : List (Str × Addr)) (fp : List Addr) (Ey : Value → Shared → Prop), Passes (CXe X.prog X.w) ((X.blk s H scope (compEnvC scope cl C X.env) fp).wish Ey) E → PE ((X.blk s H scope (compEnvC scope cl C X.env) fp).wish Ey) elt te)
    (hstk : X.stack = X.env :: X.outer) (hfr : X.env.frame = some X.env.locals) (out : LvOk X E) (hs : ∀ x, foldedSetIterable iter X.env x = pure x := by intro _; rfl) :
    PE X (.ListComp elt [⟨tg, iter, ifs, 0⟩] scope pos) (tLc wi g tt te (own.map (·.2))) := by
  intro pins s σ H Q I h
  rw [eval_ListComp]
  refine lc_coreX hc hN I hi ok hg ht he hstk hfr out hs h fun D C s' m H' I' q hn f => ⟨m, hn, fun h'' sb => ?_⟩
  obtain ⟨f0, f1, f2, f3, f4, f5⟩ := f
  exact ⟨.ref D, H', I'.turned (t' := s'.toks) (fun b o hb e => (sb.2 b hb).trans e) f0 f1 f3 f4 f5, rfl, q⟩
end
end L2

set_option maxRecDepth 100000
set_option linter.all false
namespace L2
open PySem PySem.Spec PyProof.Rows

theorem ints_vals : ∀ {ns : List Int} {us : List Value}, Vals (ns.map V.int) us → IntsAre us ns
  | [], _, h => by
    rw [List.map_nil] at h
    cases h
    exact .nil
  | n :: r, _, h => by
    rw [List.map_cons] at h
    cases h with
    | cons a b =>
      obtain ⟨t, rfl⟩ := a
      exact .cons n t (ints_vals b)

/-- how a call of a spec row ends: a list of ints -/
def SpecEnd (Post : List Int → Prop) (s₁ : Shared) (r : Result) (s' : Shared) : Prop := ∃ (p : Addr) (n : Nat) (ns' : List Int) (us : List Value), r = .ok (.ret (.ref p)) ∧ s'.heap.get? p = some { cls := .type "list", data := .seq us.toArray n } ∧
  IntsAre us ns' ∧ Post ns' ∧ PySem.OldK s₁.heap s'.heap ∧ s'.os = s₁.os ∧ AllBare s'.gens
def SpecQ (Post : List Int → Prop) : VK := fun v H' => ∃ (p : Addr) (ns' : List Int), v = .ref p ∧ H' p = some (.lst (ns'.map V.int)) ∧ Post ns'

theorem spec_call1 {P : Program} {w : World} {K : PySem.W.Frag} {mg mb : Str → Option Value} {CX : CXT} {k : Nat} {fa a : Addr} {fd : FuncData} {x : Str} {sp : Sp} {s₁ : Shared} {vs : List Value} {ns : List Int} {Post : List Int → Prop}
    (KX : K.In s₁.heap) (hns : s₁.heap.Ns mainGlobals mg) (hb : s₁.heap.Ns builtinsNs mb) (hbb : ∀ x : Str, x ≠ "__name__" → mb x = bootBuiltins x) (hlim : s₁.heap.NoLimit) (hg : s₁.gens = #[])
    (ha : s₁.heap.get? a = some { cls := .type "list", data := .seq vs.toArray }) (hi : IntsAre vs ns) (hl : ns.length ≤ sizeLine) (hr : Room k callerA)
    (F : ∀ base : Heap, K.In base → base.Ns mainGlobals mg → FnOk P w K mg base CX k fa fd [x] sp) (hbind : ∀ (s : Shared) (u : Value), BindsTo s fd ⟨[u], []⟩ [(x, u)])
    (hsp : ∀ H : Hp, Only H → SqL K H a (ns.map V.int) → sp [.ref a] H (SpecQ Post) fun _ _ _ => False)
    (hCX : ∀ H e s', CX [] H s₁ (fun _ _ _ => False) e s' → False) :
    codeAny (model P w) callerA (.call (.ref fa) ⟨[.ref a], []⟩) (SpecEnd Post s₁) s₁ := by
  have rv := vals_ints hi
  have lenV := hi.length
  have core : ∀ H : Hp, Only H → SqL K H a (ns.map V.int) → HOk P w H s₁.heap → (∀ b, H b ≠ none → b = a) → (H a ≠ none → K.lookup a = none) →
      codeAny (model P w) callerA (.call (.ref fa) ⟨[.ref a], []⟩) (SpecEnd Post s₁) s₁ := by
    intro H hO hS hok hA hK
    have base_of : ∀ {b : Addr} {o : Obj}, s₁.heap.get? b = some o → H b = none → (hidT s₁.heap H).get? b = some o := fun e n => hidT_get e n
    have noA : ∀ {b : Addr} {o : Obj} {es : Array DictEntry} {ep : Nat}, s₁.heap.get? b = some o → o.data = .dict es ep → H b = none := fun {b o es ep} e d => by
      cases q : H b with
      | none => rfl
      | some u =>
        have e' : b = a := hA b (by rw [q]; simp)
        subst e'
        rw [ha] at e; cases e
        have d' : Data.seq vs.toArray _ = Data.dict es ep := d
        cases d'
    have nsK : ∀ {b : Addr} {m : Str → Option Value}, s₁.heap.Ns b m → (hidT s₁.heap H).Ns b m := fun {b m} ⟨o, es, ep, e, d, r⟩ => ⟨o, es, ep, base_of e (noA e d), d, r⟩
    have hKb : K.In (hidT s₁.heap H) := fun b o e => base_of (KX b o e) (by
      cases q : H b with
      | none => rfl
      | some u =>
        have e' : b = a := hA b (by rw [q]; simp)
        subst e'
        rw [hK (by rw [q]; simp)] at e; cases e)
    have hM : Mod K mg (hidT s₁.heap H) := ⟨hKb, nsK hns, ⟨mb, nsK hb, hbb⟩, let ⟨mc, h1, h2⟩ := hlim; ⟨mc, nsK h1, h2⟩⟩
    have e0 : Env0 P w K mg (hidT s₁.heap H) callerA [] s₁ H := ⟨rfl, hM, fun b o e => of_hidT e, Nat.le_of_eq (hidT_size _ _), trivial, fun b hb => absurd (show b ∈ ([] : List Addr) from hb) (by simp), hok, .of_eq hg⟩
    refine codeAny_mono ((F _ hKb (nsK hns)).run callerA [] s₁ H ⟨[.ref a], []⟩ [.ref a] [.ref a] _ _ hr e0 (hbind s₁ (.ref a)) (.cons rfl .nil) (hsp H hO hS)) fun r s' h => ?_
    cases r with
    | error e => exact (hCX H e s' h).elim
    | ok fl =>
      cases fl with
      | next => exact False.elim h
      | brk => exact False.elim h
      | cont => exact False.elim h
      | ret u =>
        obtain ⟨v, H', os, bare, un, hok', r', p, ns', rfl, hp, post⟩ := h
        obtain rfl : u = Value.ref p := r'
        obtain ⟨_, us, n, ru, eu⟩ := hok' p _ hp
        refine ⟨p, n, ns', us, rfl, eu, ints_vals ru, post, PySem.OldK.of_keep fun b o e => ?_, os, bare⟩
        cases q : H b with
        | none => exact un.keep b o e q (by intro z; exact absurd (show b ∈ ([] : List Addr) from z) (by simp)) (by simp)
        | some u =>
          rcases hO b with z | ⟨ob, xs, z⟩
          · rw [q] at z; cases z
          · have z2 := un.frzs b ob _ z
            obtain ⟨e1, _⟩ := hok b _ z
            obtain ⟨e2, _⟩ := hok' b _ z2
            rw [e] at e1; cases e1
            exact e2
  cases hk : K.lookup a with
  | some o =>
    have e := KX a o hk
    rw [ha] at e
    cases e
    refine core (fun _ => none) (fun _ => .inl rfl) (.inr ⟨_, vs.toArray, _, hk, rfl, rfl, rfl, by rw [List.size_toArray, lenV]; exact hl, by simpa using rv⟩) (fun b u z => by have z' : (none : Option HO) = some u := z; cases z') (fun b z => absurd rfl z) fun z => absurd rfl z
  | none =>
    refine core (fun b => if b = a then some (.frz { cls := .type "list", data := .seq vs.toArray } (.lst (ns.map V.int))) else none) (fun b => ?_) (.inl (.inr ⟨{ cls := .type "list", data := .seq vs.toArray }, if_pos rfl⟩)) (fun b u z => ?_) (fun b z => ?_) fun _ => hk
    · by_cases hb : b = a
      · exact .inr ⟨_, _, if_pos hb⟩
      · exact .inl (if_neg hb)
    · by_cases hb : b = a
      · have z' := (if_pos hb).symm.trans z
        cases z'
        subst hb
        exact ⟨ha, by rw [List.length_map]; exact hl, vs, _, rv, ha⟩
      · have z' := (if_neg hb).symm.trans z
        cases z'
    · by_cases hb : b = a
      · exact hb
      · exact absurd (if_neg hb) z

theorem readsAll_ints {R : PySem.W.WRecords} {cl : Str → Option Addr} {h : Heap} : ∀ {us : List Value} {ns : List Int}, IntsAre us ns → PySem.W.ReadsAllW R cl h us (ns.map PySem.W.WData.int) []
  | _, _, .nil => .nil
  | _, _, .cons n t r => by
    rw [List.map_cons]
    exact .cons (.int n t) (readsAll_ints r)

/-- the goal that k_headS leaves, for a row with one argument, a list of ints -/
theorem walk_spec1 {r : PySem.W.OpenSpec} {k : Nat} {q : Program} {loose : List Str} {XP : (Str → Option Value) → Heap → Prop} {YP : World → Heap → Prop} {d : DefRec} {K : Params → PySem.W.Frag} {CX : World → CXT} {sp : World → List Int → Sp} {x : Str}
    {Pre : List Int → Prop} {Post : List Int → List Int → Prop} (hpre : ∀ args, r.pre args = true → ∃ ns : List Int, args = [.list (ns.map .int)] ∧ ns.length ≤ sizeLine ∧ Pre ns)
    (hpost : ∀ ns ns', Pre ns → Post ns ns' → r.pre [.list (ns.map .int)] = true → r.post [.list (ns.map .int)] (.list (ns'.map .int)) = true)
    (hdf : d.params.defaults = []) (hr : Room k callerA) (hY : ∀ (w : World) (h : Heap), YP w h → (K w.params).In h)
    (F : ∀ (w : World) (mg : Str → Option Value) (fa : Addr) (h : Heap), (K w.params).In h → h.Ns mainGlobals mg → mg d.name = some (.ref fa) →
      ∃ fd : FuncData, (∀ (s : Shared) (u : Value), BindsTo s fd ⟨[u], []⟩ [(x, u)]) ∧
        ∀ (ns : List Int) (base : Heap), (K w.params).In base → base.Ns mainGlobals mg → FnOk r.prog w (K w.params) mg base (CX w) k fa fd [x] (sp w ns))
    (hsp : ∀ (w : World) (H : Hp) (a : Addr) (ns : List Int), Pre ns → Only H → SqL (K w.params) H a (ns.map V.int) → sp w ns [.ref a] H (SpecQ (Post ns)) fun _ _ _ => False)
    (hCX : ∀ (w : World) (H : Hp) (s : Shared) (e : Value) (s' : Shared), CX w [] H s (fun _ _ _ => False) e s' → False) :
    PySem.W.WalkOS q loose XP YP r d [] (fun f vs => PySem.call f vs) := by
  intro w s₀ s₁ mg mb G Y fa o pm cd doc dV kV ho hd hcd hD hmg hg args vals as hp hlay hrd hwl hlo
  obtain rfl : dV = .none := PySem.W.Dflts.none hD hdf
  obtain rfl : kV = .none := PySem.W.Dflts.noKw hD
  obtain ⟨ns, rfl, hl, pre⟩ := hpre args hp
  obtain ⟨a, vs, rfl, hobj, hints⟩ : ∃ a vs, vals = [Value.ref a] ∧ s₁.heap.get? a = some { cls := .type "list", data := .seq vs.toArray } ∧ IntsAre vs ns := by
    cases hwl with
    | cons w1 w2 =>
      cases w2
      cases w1 with
      | list ho hall => exact ⟨_, _, rfl, ho, Att.ints_of_wellAll ns _ hall⟩
  have KX := hY w _ Y
  obtain ⟨fd, hb, hF⟩ := F w mg fa _ KX G.T.g hmg
  refine PySem.W.enter_call (codeAny_mono (spec_call1 (Post := Post ns) KX G.T.g G.T.b G.T.builtins G.T.nolimit hg hobj hints hl hr (hF ns) hb (fun H hO hS => hsp w H a ns pre hO hS) fun H e s' => hCX w H s₁ e s') fun res s' hq => ?_)
  obtain ⟨p, n, ns', us, rfl, eu, iu, post, h2, h3, h4⟩ := hq
  exact ⟨.inl ⟨.ref p, .list (ns'.map .int), _, rfl, fun _ => rfl, .list eu rfl rfl (by simpa using readsAll_ints iu), hpost ns ns' pre post hp, fun z => absurd z (by show ¬ (false : Bool) = true; decide)⟩, h2, h3, h4⟩
end L2

set_option maxRecDepth 100000
set_option linter.all false
namespace L2
open PySem PySem.Spec PyProof.Rows PySem.W

/-- what may be handed in: an int, a list of ints -/
inductive AI where
  | i (n : Int)
  | l (ns : List Int)
def AI.wd : AI → WData
  | .i n => .int n
  | .l ns => .list (ns.map .int)
def AI.ok : AI → Prop
  | .i _ => True
  | .l ns => ns.length ≤ sizeLine
def AI.raw (h : Heap) : AI → Value → Prop
  | .i n, v => ∃ t, v = .int n t
  | .l ns, v => ∃ a vs, v = .ref a ∧ h.get? a = some { cls := .type "list", data := .seq vs.toArray } ∧ IntsAre vs ns
def AI.at_ (K : Frag) (H : Hp) : AI → V → Prop
  | .i n, v => v = .int n
  | .l ns, v => ∃ a, v = .ref a ∧ SqL K H a (ns.map V.int)
def AI.toV : AI → Value → V
  | .i n, _ => .int n
  | .l _, .ref a => .ref a
  | .l _, _ => .non
theorem raw_of {P : Params} {h : Heap} : ∀ (as : List AI) (vals : List Value), WellAll P h vals (as.map AI.wd) → Paired (AI.raw h) as vals
  | [], vals, w => by
    cases w
    exact .nil
  | a :: as, vals, w => by
    rw [List.map_cons] at w
    cases w with
    | cons w1 w2 =>
      refine .cons ?_ (raw_of as _ w2)
      cases a with
      | i n =>
        cases w1
        exact ⟨_, rfl⟩
      | l ns =>
        cases w1 with
        | list ho hall => exact ⟨_, _, rfl, ho, Att.ints_of_wellAll ns _ hall⟩
theorem ints_uniq {vs : List Value} {ns ms : List Int} (h : IntsAre vs ns) : IntsAre vs ms → ns = ms := by
  induction h generalizing ms with
  | nil => intro h; cases h; rfl
  | cons n t r ih =>
    intro h
    cases h with
    | cons m u r' => rw [ih r']
def addrOf : AI → Value → Option Addr
  | .l _, .ref a => some a
  | _, _ => none
/-- the abstract heap at the entry: the lists that were handed in, and the table of the code -/
def headH (K : Frag) (h : Heap) (P : Addr) (as : List AI) (vals : List Value) : Hp := fun b =>
  if (K.lookup b).isSome = true then none else if b = P then some (.tbl #[]) else
    match (as.zip vals).find? fun p => addrOf p.1 p.2 == some b with
    | some (.l ns, _) => (h.get? b).map fun o => .frz o (.lst (ns.map V.int))
    | _ => none
theorem paired_zip {α β : Type} {F : α → β → Prop} : ∀ {l₁ : List α} {l₂ : List β}, Paired F l₁ l₂ → ∀ p ∈ l₁.zip l₂, F p.1 p.2
  | _, _, .nil, p, hp => by simp at hp
  | _, _, .cons h t, p, hp => by
    rw [List.zip_cons_cons] at hp
    rcases List.mem_cons.mp hp with e | e
    · subst e; exact h
    · exact paired_zip t p e
theorem headH_list {K : Frag} {h : Heap} {P b : Addr} {as : List AI} {vals : List Value} {ns : List Int} {us : List Value} (hp : Paired (AI.raw h) as vals) (hm : (AI.l ns, Value.ref b) ∈ as.zip vals) (ho : h.get? b = some { cls := .type "list", data := .seq us.toArray })
    (hi : IntsAre us ns) (hk : K.lookup b = none) (nP : b ≠ P) : headH K h P as vals b = some (.frz { cls := .type "list", data := .seq us.toArray } (.lst (ns.map V.int))) := by
  unfold headH
  rw [hk, if_neg (by simp), if_neg nP]
  cases e : (as.zip vals).find? fun p => addrOf p.1 p.2 == some b with
  | none =>
    have := List.find?_eq_none.mp e _ hm
    simp [addrOf] at this
  | some p =>
    obtain ⟨x, y⟩ := p
    have h1 := List.find?_some e
    have h2 := List.mem_of_find?_eq_some e
    cases x with
    | i n => simp [addrOf] at h1
    | l ms =>
      obtain ⟨a2, us2, e1, e2, e3⟩ := paired_zip hp _ h2
      have e1 : y = Value.ref a2 := e1
      subst e1
      have h1 : a2 = b := by simpa [addrOf] using h1
      subst h1
      rw [ho] at e2
      have e4 : us = us2 := by
        have := Option.some.inj e2
        injection this with _ _ q
        injection q with q _
        simpa using q
      subst e4
      have := ints_uniq hi e3
      subst this
      show (h.get? a2).map _ = _
      rw [ho]
      rfl
theorem headH_some {K : Frag} {h : Heap} {P b : Addr} {as : List AI} {vals : List Value} {o : HO} (hp : Paired (AI.raw h) as vals) (e : headH K h P as vals b = some o) :
    K.lookup b = none ∧ ((b = P ∧ o = .tbl #[]) ∨ (b ≠ P ∧ ∃ ns us, (AI.l ns, Value.ref b) ∈ as.zip vals ∧ h.get? b = some { cls := .type "list", data := .seq us.toArray } ∧ IntsAre us ns ∧ o = .frz { cls := .type "list", data := .seq us.toArray } (.lst (ns.map V.int)))) := by
  have e0 := e
  unfold headH at e
  cases hk : K.lookup b with
  | some z => rw [hk, if_pos (by simp)] at e; cases e
  | none =>
    rw [hk, if_neg (by simp)] at e
    refine ⟨rfl, ?_⟩
    by_cases hP : b = P
    · rw [if_pos hP] at e
      cases e
      exact .inl ⟨hP, rfl⟩
    · rw [if_neg hP] at e
      refine .inr ⟨hP, ?_⟩
      cases q : (as.zip vals).find? fun p => addrOf p.1 p.2 == some b with
      | none => rw [q] at e; cases e
      | some p =>
        obtain ⟨x, y⟩ := p
        have h1 := List.find?_some q
        have h2 := List.mem_of_find?_eq_some q
        cases x with
        | i n => simp [addrOf] at h1
        | l ms =>
          obtain ⟨a2, us2, e1, e2, e3⟩ := paired_zip hp _ h2
          have e1 : y = Value.ref a2 := e1
          subst e1
          have h1 : a2 = b := by simpa [addrOf] using h1
          subst h1
          refine ⟨ms, us2, h2, e2, e3, ?_⟩
          have := headH_list (K := K) (P := P) hp h2 e2 e3 hk hP
          rw [this] at e0
          exact (Option.some.inj e0).symm

theorem spec_callN {P : Program} {w : World} {K : PySem.W.Frag} {mg mb : Str → Option Value} {CX : CXT} {k : Nat} {fa c Pt : Addr} {fd : FuncData} {ps : List Str} {sp : Sp} {s₁ : Shared} {as : List AI} {vals : List Value} {Post : List Int → Prop}
    (KX : K.In s₁.heap) (hns : s₁.heap.Ns mainGlobals mg) (hb : s₁.heap.Ns builtinsNs mb) (hbb : ∀ x : Str, x ≠ "__name__" → mb x = bootBuiltins x) (hlim : s₁.heap.NoLimit) (hg : s₁.gens = #[])
    (hbm : ∃ bm ob, mg "__builtins__" = some (.ref bm) ∧ bm ≠ builtinsNs ∧ s₁.heap.get? bm = some ob ∧ ob.cls = .type "module" ∧ ob.dict = some builtinsNs ∧ ob.data = .plain)
    (hC : CodeHd s₁.heap c Pt) (hP : s₁.heap.get? Pt = some (tabObj #[])) (hnt : noTabs K = true)
    (ha : Paired (AI.raw s₁.heap) as vals) (hok : ∀ a ∈ as, a.ok) (hl : as.length = ps.length) (hr : Room k callerA)
    (F : ∀ base : Heap, K.In base → base.Ns mainGlobals mg → base.BuiltinsAt mg Pt → FnOk P w K mg base CX k fa fd ps sp) (hbind : ∀ (s : Shared) (us : List Value), us.length = ps.length → BindsTo s fd ⟨us, []⟩ (ps.zip us))
    (hsp : ∀ (H : Hp) (vs : List V), Paired (AI.at_ K H) as vs → H Pt = some (.tbl #[]) → sp vs H (SpecQ Post) fun _ _ _ => False)
    (hCX : ∀ H e s', CX [] H s₁ (fun _ _ _ => False) e s' → False) :
    codeAny (model P w) callerA (.call (.ref fa) ⟨vals, []⟩) (SpecEnd Post s₁) s₁ := by
  have kP : K.lookup Pt = none := by
    cases e : K.lookup Pt with
    | none => rfl
    | some o =>
      have h1 := KX _ _ e
      rw [hP] at h1
      have h2 := List.all_eq_true.mp hnt (Pt, o) (mem_of_lookupK e)
      cases h1
      exact absurd (show false = true from h2) Bool.false_ne_true
  let H : Hp := headH K s₁.heap Pt as vals
  have HPt : H Pt = some (.tbl #[]) := by
    show headH K s₁.heap Pt as vals Pt = _
    unfold headH
    rw [kP, if_neg (by simp), if_pos rfl]
  have hH : ∀ b o, H b = some o → K.lookup b = none ∧ ((b = Pt ∧ o = .tbl #[]) ∨ (b ≠ Pt ∧ ∃ ns us, (AI.l ns, Value.ref b) ∈ as.zip vals ∧ s₁.heap.get? b = some { cls := .type "list", data := .seq us.toArray } ∧ IntsAre us ns ∧ o = .frz { cls := .type "list", data := .seq us.toArray } (.lst (ns.map V.int)))) :=
    fun b o e => headH_some ha e
  have hHd : ∀ b o ob, H b = some o → s₁.heap.get? b = some ob → (ob = tabObj #[] ∧ b = Pt) ∨ ∃ us : List Value, ob = { cls := .type "list", data := .seq us.toArray } := fun b o ob e1 e2 => by
    rcases (hH b o e1).2 with ⟨rfl, _⟩ | ⟨_, ns, us, _, h3, _⟩
    · rw [hP] at e2; cases e2; exact .inl ⟨rfl, rfl⟩
    · rw [h3] at e2; cases e2; exact .inr ⟨us, rfl⟩
  have noD : ∀ {b : Addr} {o : Obj} {es : Array DictEntry} {ep : Nat}, s₁.heap.get? b = some o → o.data = .dict es ep → H b = none := fun {b o es ep} e d => by
    cases q : H b with
    | none => rfl
    | some u =>
      rcases hHd b u o q e with ⟨z, _⟩ | ⟨us, z⟩
      · rw [z] at d; cases d
      · rw [z] at d; cases d
  have hokH : HOk P w H s₁.heap := fun b o e => by
    rcases (hH b o e).2 with ⟨rfl, rfl⟩ | ⟨_, ns, us, h2, h3, h4, rfl⟩
    · exact hP
    · have hz : ns.length ≤ sizeLine := hok _ (List.of_mem_zip h2).1
      exact ⟨h3, by rw [List.length_map]; exact hz, us, _, vals_ints h4, h3⟩
  have base_of : ∀ {b : Addr} {o : Obj}, s₁.heap.get? b = some o → H b = none → (hidT s₁.heap H).get? b = some o := fun e n => hidT_get e n
  have nsK : ∀ {b : Addr} {m : Str → Option Value}, s₁.heap.Ns b m → (hidT s₁.heap H).Ns b m := fun {b m} ⟨o, es, ep, e, d, r⟩ => ⟨o, es, ep, base_of e (noD e d), d, r⟩
  have hKb : K.In (hidT s₁.heap H) := fun b o e => base_of (KX b o e) (by
    cases q : H b with
    | none => rfl
    | some u =>
      have := (hH b u q).1
      rw [this] at e; cases e)
  have hBu : (hidT s₁.heap H).BuiltinsAt mg Pt := by
    obtain ⟨bm, ob, b1, b2, b3, b4, b5, b6⟩ := hbm
    have n1 : bm ≠ mainGlobals := fun z => by
      obtain ⟨o, es, ep, e, d, _⟩ := hns
      rw [← z, b3] at e; cases e; rw [b6] at d; cases d
    have n2 : bm ≠ Pt := fun z => by
      rw [z, hP] at b3; cases b3; cases b6
    refine ⟨bm, ob, b1, b2, n1, n2, base_of b3 ?_, b4, b5, b6⟩
    cases q : H bm with
    | none => rfl
    | some u =>
      rcases hHd bm u ob q b3 with ⟨z, _⟩ | ⟨us, z⟩
      · rw [z] at b6; cases b6
      · rw [z] at b6; cases b6
  have hM : Mod K mg (hidT s₁.heap H) := ⟨hKb, nsK hns, ⟨mb, nsK hb, hbb⟩, let ⟨mc, h1, h2⟩ := hlim; ⟨mc, nsK h1, h2⟩⟩
  have e0 : Env0 P w K mg (hidT s₁.heap H) callerA [] s₁ H := ⟨rfl, hM, fun b o e => of_hidT e, Nat.le_of_eq (hidT_size _ _), trivial, fun b hb => absurd (show b ∈ ([] : List Addr) from hb) (by simp), hokH, .of_eq hg⟩
  have lenV : as.length = vals.length := Paired.length ha
  -- the values
  have vals_at : ∀ (as' : List AI) (vals' : List Value), (∀ p ∈ as'.zip vals', p ∈ as.zip vals) → Paired (AI.raw s₁.heap) as' vals' → ∃ vs, Paired (AI.at_ K H) as' vs ∧ Vals vs vals' := by
    intro as' vals' hsub hp
    induction hp with
    | nil => exact ⟨[], .nil, .nil⟩
    | @cons a v as2 vals2 h1 h2 ih =>
      obtain ⟨vs, g1, g2⟩ := ih fun p hp => hsub p (by rw [List.zip_cons_cons]; exact List.mem_cons_of_mem _ hp)
      have hin := hsub (a, v) (by rw [List.zip_cons_cons]; exact List.mem_cons_self)
      cases a with
      | i n =>
        obtain ⟨t, rfl⟩ := h1
        exact ⟨.int n :: vs, .cons rfl g1, .cons ⟨t, rfl⟩ g2⟩
      | l ns =>
        obtain ⟨b, us, rfl, h3, h4⟩ := h1
        refine ⟨.ref b :: vs, .cons ⟨b, rfl, ?_⟩ g1, .cons rfl g2⟩
        have hz : ns.length ≤ sizeLine := hok _ (List.of_mem_zip hin).1
        cases hk : K.lookup b with
        | some o =>
          have e := KX b o hk
          rw [h3] at e
          cases e
          have ln := h4.length
          exact .inr ⟨_, us.toArray, _, hk, rfl, rfl, rfl, by rw [List.size_toArray, ln]; exact hz, by simpa using vals_ints h4⟩
        | none =>
          have nP : b ≠ Pt := fun z => by rw [z, hP] at h3; cases h3
          exact .inl (.inr ⟨_, headH_list ha hin h3 h4 hk nP⟩)
  obtain ⟨vs, g1, g2⟩ := vals_at as vals (fun p hp => hp) ha
  refine codeAny_mono ((F _ hKb (nsK hns) hBu).run callerA [] s₁ H ⟨vals, []⟩ vals vs _ _ hr e0 (hbind s₁ vals (by rw [← lenV]; exact hl)) g2 (hsp H vs g1 HPt)) fun r s' h => ?_
  cases r with
  | error e => exact (hCX H e s' h).elim
  | ok fl =>
    cases fl with
    | next => exact False.elim h
    | brk => exact False.elim h
    | cont => exact False.elim h
    | ret u =>
      obtain ⟨v, H', os, bare, un, hok', r', p, ns', rfl, hp, post⟩ := h
      obtain rfl : u = Value.ref p := r'
      obtain ⟨_, us, n, ru, eu⟩ := hok' p _ hp
      have nin : ∀ b : Addr, b ∉ frs ([] : List Env) := fun b z => absurd (show b ∈ ([] : List Addr) from z) (by simp)
      refine ⟨p, n, ns', us, rfl, eu, ints_vals ru, post, ⟨fun b o e => ?_, fun b o e => un.there b o e (by simp)⟩, os, bare⟩
      cases q : H b with
      | none => exact .inl (un.keep b o e q (nin b) (by simp))
      | some u =>
        rcases (hH b u q).2 with ⟨z1, z2⟩ | ⟨_, ns, us2, h2, h3, h4, z⟩
        · subst z1 z2
          rw [hP] at e
          cases e
          obtain ⟨more, e2⟩ := un.tbls b _ q
          have e3 : s'.heap.get? b = some (tabObj (#[] ++ more)) := hok' b _ e2
          exact .inr (.inl ⟨(hC.tab hP).isCodeTable, rfl, #[], more, rfl, e3⟩)
        · subst z
          have z2 := un.frzs b _ _ q
          obtain ⟨e1, _⟩ := hok' b _ z2
          rw [h3] at e
          cases e
          exact .inl e1

/-- the goal that k_headS leaves -/
theorem walk_specN {r : PySem.W.OpenSpec} {k : Nat} {q : Program} {loose : List Str} {XP : (Str → Option Value) → Heap → Prop} {YP : World → Heap → Prop} {d : DefRec} {K : Params → PySem.W.Frag} {CX : World → CXT} {sp : World → Addr → List AI → Sp} {ps : List Str}
    {Pre : List AI → Prop} {Post : List AI → List Int → Prop} (hpre : ∀ args, r.pre args = true → ∃ as : List AI, args = as.map AI.wd ∧ as.length = ps.length ∧ (∀ a ∈ as, a.ok) ∧ Pre as)
    (hpost : ∀ as ns', Pre as → Post as ns' → r.pre (as.map AI.wd) = true → r.post (as.map AI.wd) (.list (ns'.map .int)) = true)
    (hdf : d.params.defaults = []) (hfind : (recsOf q).find? (fun e => e.name == d.name) = some d) (hr : Room k callerA) (hY : ∀ (w : World) (h : Heap), YP w h → (K w.params).In h)
    (F : ∀ (w : World) (mg : Str → Option Value) (fa : Addr) (h : Heap), (K w.params).In h → h.Ns mainGlobals mg → mg d.name = some (.ref fa) →
      ∃ (c Pt : Addr) (fd : FuncData), tabIn (K w.params) d.name = some (c, Pt) ∧ noTabs (K w.params) = true ∧ (∀ (s : Shared) (us : List Value), us.length = ps.length → BindsTo s fd ⟨us, []⟩ (ps.zip us)) ∧
        ∀ (as : List AI) (base : Heap), (K w.params).In base → base.Ns mainGlobals mg → base.BuiltinsAt mg Pt → FnOk r.prog w (K w.params) mg base (CX w) k fa fd ps (sp w Pt as))
    (hsp : ∀ (w : World) (Pt : Addr) (H : Hp) (as : List AI) (vs : List V), Pre as → Paired (AI.at_ (K w.params) H) as vs → H Pt = some (.tbl #[]) → sp w Pt as vs H (SpecQ (Post as)) fun _ _ _ => False)
    (hCX : ∀ (w : World) (H : Hp) (s : Shared) (e : Value) (s' : Shared), CX w [] H s (fun _ _ _ => False) e s' → False) :
    PySem.W.WalkOS q loose XP YP r d [] (fun f vs => PySem.call f vs) := by
  intro w s₀ s₁ mg mb G Y fa o pm cd doc dV kV ho hd hcd hD hmg hg args vals as hp hlay hrd hwl hlo
  obtain rfl : dV = .none := PySem.W.Dflts.none hD hdf
  obtain rfl : kV = .none := PySem.W.Dflts.noKw hD
  obtain ⟨ais, rfl, hl, hok, pre⟩ := hpre args hp
  have hraw := raw_of ais vals hwl
  have KX := hY w _ Y
  obtain ⟨c, Pt, fd, ht, hnt, hb, hF⟩ := F w mg fa _ KX G.T.g hmg
  obtain ⟨hC, hP⟩ := tab_of G.T KX hfind ht
  obtain ⟨bm, ob, b1, b2, b3, b4, b5, b6⟩ := G.T.bmain
  refine PySem.W.enter_call (codeAny_mono (spec_callN (Post := Post ais) KX G.T.g G.T.b G.T.builtins G.T.nolimit hg ⟨bm, ob, b1, b2, b3, b4, b5, b6⟩ hC hP hnt hraw hok hl hr (hF ais) hb (fun H vs h1 h2 => hsp w Pt H ais vs pre h1 h2) fun H e s' => hCX w H s₁ e s') fun res s' hq => ?_)
  obtain ⟨p, n, ns', us, rfl, eu, iu, post, h2, h3, h4⟩ := hq
  exact ⟨.inl ⟨.ref p, .list (ns'.map .int), _, rfl, fun _ => rfl, .list eu rfl rfl (by simpa using readsAll_ints iu), hpost ais ns' pre post hp, fun z => absurd z (by show ¬ (false : Bool) = true; decide)⟩, h2, h3, h4⟩
end L2

set_option maxRecDepth 100000
set_option linter.all false
namespace L2
open PySem PySem.Spec PyProof.Rows PySem.W

/-! ### a lambda made in a def's body -/
def CodeIs (oc : Obj) (qual : Str) : Prop := ∃ vs t, oc.data = .fields vs ∧ vs[1]? = some (.str qual t)
def tLam (P : Addr) (pos : Pos) (qual : Str) (obj : Addr → Value → Obj) : TE := fun σ H Q => ∃ ps, H P = some (.tbl ps) ∧ TriplesOk ps.toList ∧ codeAmong pos ps.toList = none ∧
  ∀ (f c' : Addr) (oc : Obj) (ctv : Value) (more : Array Value), H f = none → H c' = none → f ≠ c' → CodeIs oc qual → Q (.ref f) (upd (upd (upd H P (.tbl (ps ++ more))) c' (.frz oc (.own c'))) f (.frz (obj c' ctv) (.own f)))
theorem pe_lam {X : Cx} {c P : Addr} {clos : List (Str × Addr)} {params : Arguments} {body : Expr} {scope : Scope} {pos : Pos} (hcode : X.env.code = .ref c) (C : CodeHd X.base c P) (hB : X.base.BuiltinsAt X.mg P)
    (hcl : closureFor scope X.env = pure clos) (hdef : defaultsOf params X.env = ([], [])) :
    PE X (.Lambda params body scope pos) (tLam P pos (X.env.qual ++ "<lambda>") fun c' ctv => kla_obj "<lambda>" (X.env.qual ++ "<lambda>") params body scope clos ((X.mg "__name__").getD .none) c' ctv) := by
  intro pins s σ H Q I h
  obtain ⟨ps, hP, ht, hnf, k⟩ := h
  have hPh : s.heap.get? P = some (tabObj ps) := I.hok P _ hP
  have hgs : s.heap.Ns mainGlobals X.mg := I.ok.mod.glob.keeps I.bk
  have hgP : mainGlobals ≠ P := fun q => by
    obtain ⟨o, es, ep, e, hd, _⟩ := hgs
    rw [q, hPh] at e; cases e; cases hd
  obtain ⟨bm, ob, b1, b2, b3, b4, b5, b6⟩ := hB
  refine kla_eval hdef (kla_makeFunction (mg := X.mg) hcl I.ok.glob hgs hcode (C.keeps I.bk) hPh ht hnf hgP ⟨bm, ob, b1, b2, b3, b4, I.bk _ _ b5, b6⟩ fun c' ctv h' tk hx hge hlt hrec htb => ?_)
  obtain ⟨c₂, oc, vs, t, e2, hoc, hd, hv⟩ := hrec
  cases e2
  have nP : ∀ b u, H b = some u → (∀ ps, u ≠ .tbl ps) → b ≠ P := fun b u e n z => by rw [z, hP] at e; exact n ps (Option.some.inj e).symm
  have ltP : P < s.heap.objs.size := Heap.lt_size hPh
  have Pc : P ≠ c' := Nat.ne_of_lt (Nat.lt_of_lt_of_le ltP hge)
  have szh : s.heap.objs.size ≤ h'.objs.size := Nat.le_trans hge (Nat.le_of_lt hlt)
  have Pf : P ≠ h'.objs.size := Nat.ne_of_lt (Nat.lt_of_lt_of_le ltP szh)
  have cf : c' ≠ h'.objs.size := Nat.ne_of_lt hlt
  have nf : H h'.objs.size = none := I.hok.fresh szh
  have nc : H c' = none := I.hok.fresh hge
  have old : ∀ b o, b ≠ P → s.heap.get? b = some o → (h'.push (kla_obj "<lambda>" (X.env.qual ++ "<lambda>") params body scope clos ((X.mg "__name__").getD .none) c' ctv)).get? b = some o := fun b o hb e => Heap.get?_push_of_some _ (hx b o hb e)
  have oldlt : ∀ b o, s.heap.get? b = some o → b ≠ c' ∧ b ≠ h'.objs.size := fun b o e => ⟨Nat.ne_of_lt (Nat.lt_of_lt_of_le (Heap.lt_size e) hge), Nat.ne_of_lt (Nat.lt_of_lt_of_le (Heap.lt_size e) szh)⟩
  have hold : ∀ b u, H b = some u → b ≠ P → upd (upd (upd H P (.tbl (ps ++ #[rawInt pos.line, rawInt pos.col, .ref c']))) c' (.frz oc (.own c'))) h'.objs.size
      (.frz (kla_obj "<lambda>" (X.env.qual ++ "<lambda>") params body scope clos ((X.mg "__name__").getD .none) c' ctv) (.own h'.objs.size)) b = some u := fun b u e n => by
    rw [upd_ne (ne_of_none e nf), upd_ne (ne_of_none e nc), upd_ne n]
    exact e
  refine ⟨.ref h'.objs.size, _, ?_, rfl, k h'.objs.size c' oc ctv #[rawInt pos.line, rawInt pos.col, .ref c'] nf nc (Ne.symm cf) ⟨vs, t, hd, hv⟩⟩
  refine I.step (g' := s.gens) (d' := s.drawn) (t' := tk) (ch := []) (fun _ z => nomatch z) (fun b o _ _ _ e n => old b o (fun z => by rw [z, hP] at n; cases n) e) (fun b o _ _ _ e n => ⟨o.slots, old b o (fun z => by rw [z, hP] at n; cases n) e⟩)
    (fun b o _ e n => ?_) (fun b o _ e => ?_) (fun b xs e => hold b _ e (nP b _ e fun _ z => nomatch z)) (fun b o u e => hold b _ e (nP b _ e fun _ z => nomatch z)) (fun b qs e => ?_) (fun m hm => ?_) (fun b u e => ?_) I.bare
  · obtain ⟨h1, h2⟩ := oldlt b o e
    rw [upd_ne h2, upd_ne h1, upd_ne (fun z => by rw [z, hP] at n; cases n)]
    exact n
  · by_cases hb : b = P
    · exact ⟨_, by rw [hb]; exact Heap.get?_push_of_some _ htb⟩
    · exact ⟨o, old b o hb e⟩
  · by_cases hb : b = P
    · subst hb
      rw [hP] at e
      cases e
      exact ⟨_, by rw [upd_ne Pf, upd_ne Pc, upd_same]⟩
    · exact ⟨#[], by rw [hold b _ e hb]; simp⟩
  · have hLP : X.env.locals ≠ P := fun z => by
      have := I.free
      rw [z, hP] at this
      cases this
    exact (hm.extBut hx hLP).push _
  · by_cases hf : b = h'.objs.size
    · subst hf
      rw [upd_same] at e
      cases e
      exact ⟨Heap.get?_push_size _ rfl, _, Heap.get?_push_size _ rfl⟩
    · rw [upd_ne hf] at e
      by_cases hc : b = c'
      · subst hc
        rw [upd_same] at e
        cases e
        exact ⟨Heap.get?_push_of_some _ hoc, _, Heap.get?_push_of_some _ hoc⟩
      · rw [upd_ne hc] at e
        by_cases hb : b = P
        · subst hb
          rw [upd_same] at e
          cases e
          exact Heap.get?_push_of_some _ htb
        · rw [upd_ne hb] at e
          refine (I.hok b u e).stay (fun d v hd q => old d v ?_ q) (fun d q => hold d _ q (nP d _ q fun _ z => nomatch z)) fun d xs q => hold d _ q (nP d _ q fun _ z => nomatch z)
          rcases hd with z | z
          · rw [z]; exact hb
          · exact nP d _ z fun _ z => nomatch z

/-! ### a lambda called -/
def unt (cl : List Addr) (H : Hp) : Hp := fun b => if b ∈ cl then none else H b
def retr (cl : List Addr) (H0 H : Hp) : Hp := fun b => if b ∈ cl then H0 b else H b
theorem unt_in {cl : List Addr} {H : Hp} {b : Addr} (h : b ∈ cl) : unt cl H b = none := if_pos h
theorem unt_out {cl : List Addr} {H : Hp} {b : Addr} (h : b ∉ cl) : unt cl H b = H b := if_neg h
theorem retr_in {cl : List Addr} {H0 H : Hp} {b : Addr} (h : b ∈ cl) : retr cl H0 H b = H0 b := if_pos h
theorem retr_out {cl : List Addr} {H0 H : Hp} {b : Addr} (h : b ∉ cl) : retr cl H0 H b = H b := if_neg h
structure LamAt (H : Hp) (f c' : Addr) (obj : Obj) (qual : Str) (cl : List (Str × Addr)) (fv : List (Str × V)) : Prop where
  fn : H f = some (.frz obj (.own f))
  code : ∃ oc, H c' = some (.frz oc (.own c')) ∧ CodeIs oc qual
  cell : ∀ x c, (x, c) ∈ cl → ∃ o u v, H c = some (.frz o (.own c)) ∧ o.data = .cell (some u) ∧ fv.lookup x = some v ∧ RelV v u
theorem LamAt.kept {H H' : Hp} {f c' : Addr} {obj : Obj} {qual : Str} {cl : List (Str × Addr)} {fv : List (Str × V)} (L : LamAt H f c' obj qual cl fv) (k : ∀ b o u, H b = some (.frz o u) → H' b = some (.frz o u)) : LamAt H' f c' obj qual cl fv :=
  ⟨k _ _ _ L.fn, let ⟨oc, a, b⟩ := L.code; ⟨oc, k _ _ _ a, b⟩, fun x c hc => let ⟨o, u, v, a, b⟩ := L.cell x c hc; ⟨o, u, v, k _ _ _ a, b⟩⟩
/-- the cells of a lambda are frozen -/
def Cells (H : Hp) (cs : List Addr) : Prop := ∀ c ∈ cs, ∃ o v, H c = some (.frz o (.own c)) ∧ o.data = .cell v
theorem LamAt.cells {H : Hp} {f c' : Addr} {obj : Obj} {qual : Str} {cl : List (Str × Addr)} {fv : List (Str × V)} (L : LamAt H f c' obj qual cl fv) : Cells H (cl.map (·.2)) := fun c hc => by
  obtain ⟨⟨x, c2⟩, h1, h2⟩ := List.mem_map.mp hc
  have h2 : c2 = c := h2
  subst h2
  obtain ⟨o, u, v, a, b, _⟩ := L.cell x c2 h1
  exact ⟨o, some u, a, b⟩
section
variable {P : Program} {w : World} {H : Hp} {h : Heap} {cs : List Addr}
theorem Cells.noOwn (C : Cells H cs) {b a : Addr} (e : H b = some (.own a)) : b ∉ cs := fun z => by
  obtain ⟨o, v, q, _⟩ := C b z
  rw [e] at q; cases q
theorem Cells.noTup (C : Cells H cs) {b : Addr} {xs : List V} (e : H b = some (.tup xs)) : b ∉ cs := fun z => by
  obtain ⟨o, v, q, _⟩ := C b z
  rw [e] at q; cases q
theorem Cells.hok (C : Cells H cs) (ok : HOk P w H h) : HOk P w (unt cs H) h := fun b u e => by
  by_cases hb : b ∈ cs
  · rw [unt_in hb] at e; cases e
  · rw [unt_out hb] at e
    exact (ok b u e).stay (fun _ _ _ q => q) (fun d q => by rw [unt_out (C.noOwn q)]; exact q) fun d xs q => by rw [unt_out (C.noTup q)]; exact q
end
def cxL (CX : CXT) (P : Program) (w : World) (K : PySem.W.Frag) (mg : Str → Option Value) (base : Heap) (N : List Str) (qual : Str) (scope : Scope) (f c' : Addr) (cl : List (Str × Addr)) (A : Around) (outer : List Env) (s : Shared) (H : Hp) (E : XK) : Cx where
  prog := P
  w := w
  K := K
  mg := mg
  base := base
  A := A.deeper (envX qual scope s.heap.objs.size f (.ref c') cl)
  N := N
  s_0 := s
  H_0 := unt (cl.map (·.2)) H
  env := envX qual scope s.heap.objs.size f (.ref c') cl
  outer := outer
  stack := envX qual scope s.heap.objs.size f (.ref c') cl :: outer
  ex := []
  calm := true
  fn := fun _ => false
  pn := []
  xe := fun e s' => wpAny (model P w) (A.deeper (envX qual scope s.heap.objs.size f (.ref c') cl)) (leaving (envX qual scope s.heap.objs.size f (.ref c') cl) e) (fun _ s'' => CX outer H s E e s'') (fun e' s'' => CX outer H s E e' s'') s'
structure LamScope (N ps : List Str) (fv : List (Str × V)) (rest : List Str) (cl : List (Str × Addr)) (sc : Scope) : Prop where
  kind : sc.kind = .function
  co : sc.isCoroutine = false
  gen : sc.isGenerator = false
  nd : N.Nodup
  eqN : N = ps ++ fv.map (·.1) ++ rest
  par : ∀ x ∈ ps, sc.names.lookup x = some .local
  nocell : ∀ y ∈ sc.names, y.2 ≠ .cell
  free : ∀ y, sc.names.lookup y = some .free → ∃ c, cl.lookup y = some c
  isFree : ∀ y ∈ fv.map (·.1), sc.names.lookup y = some .free
  inj : ∀ x y c, cl.lookup x = some c → cl.lookup y = some c → x = y
def startL (vs : List V) (fv : List (Str × V)) (rest : List Str) : St := vs.map some ++ (fv.map fun p => some p.2) ++ rest.map fun _ => none
theorem un_retr {P : Program} {w : World} {outer : List Env} {H H' : Hp} {h h' : Heap} {cs : List Addr} (C : Cells H cs) (u : Un (frs outer) [] (unt cs H) H' h h') : Un (frs outer) [] H (retr cs H H') h h' := by
  have no : ∀ b, H b = none → b ∉ cs := fun b n z => by
    obtain ⟨o, v, q, _⟩ := C b z
    rw [n] at q; cases q
  refine ⟨fun b o q n hb hx => u.keep b o q (by rw [unt_out (no b n)]; exact n) hb hx, fun b o q n hb hx => u.slot b o q (by rw [unt_out (no b n)]; exact n) hb hx, fun b o q n hx => ?_, u.there, fun b xs q => ?_, fun b o x q => ?_, fun b ps q => ?_⟩
  · rw [retr_out (no b n)]
    exact u.free b o q (by rw [unt_out (no b n)]; exact n) hx
  · have hb := C.noTup q
    rw [retr_out hb]
    exact u.tups b xs (by rw [unt_out hb]; exact q)
  · by_cases hb : b ∈ cs
    · rw [retr_in hb]; exact q
    · rw [retr_out hb]
      exact u.frzs b o x (by rw [unt_out hb]; exact q)
  · have hb : b ∉ cs := fun z => by
      obtain ⟨o, v, e, _⟩ := C b z
      rw [q] at e; cases e
    obtain ⟨m, e⟩ := u.tbls b ps (by rw [unt_out hb]; exact q)
    exact ⟨m, by rw [retr_out hb]; exact e⟩
theorem hok_retr {P : Program} {w : World} {H H' : Hp} {h' : Heap} {cs : List Addr} (C : Cells H cs) (k : ∀ c ∈ cs, ∀ o u, H c = some (.frz o u) → h'.get? c = some o) (fr : ∀ c ∈ cs, H' c = none) (ok : HOk P w H' h') : HOk P w (retr cs H H') h' := fun b u e => by
  by_cases hb : b ∈ cs
  · obtain ⟨o, v, q, _⟩ := C b hb
    rw [retr_in hb, q] at e
    cases e
    exact ⟨k b hb o _ q, _, k b hb o _ q⟩
  · rw [retr_out hb] at e
    refine (ok b u e).stay (fun _ _ _ q => q) (fun d q => ?_) fun d xs q => ?_
    · rw [retr_out (fun z => by rw [fr d z] at q; cases q)]; exact q
    · rw [retr_out (fun z => by rw [fr d z] at q; cases q)]; exact q
theorem lookup_reverse_zip {ps : List Str} {us : List Value} {i : Nat} {y : Str} {u : Value} (nd : ps.Nodup) (h : (ps.zip us)[i]? = some (y, u)) : (ps.zip us).reverse.lookup y = some u := by
  have hm : (y, u) ∈ (ps.zip us).reverse := List.mem_reverse.mpr (List.mem_of_getElem? h)
  have un : ∀ v, (y, v) ∈ (ps.zip us).reverse → v = u := fun v hv => by
    obtain ⟨j, hj⟩ := List.getElem?_of_mem (List.mem_reverse.mp hv)
    rw [List.getElem?_zip_eq_some] at h hj
    have e := nodup_ix nd h.1 hj.1
    subst e
    have := hj.2.symm.trans h.2
    exact Option.some.inj this
  cases e : (ps.zip us).reverse.lookup y with
  | none =>
    exact absurd hm (fun z => by
      have := List.lookup_eq_none_iff.mp e (y, u) z
      simp at this)
  | some v => rw [un v (PySem.mem_of_lookup e)]
theorem lookup_fv : ∀ {fv : List (Str × V)} {j : Nat} {p : Str × V}, (fv.map (·.1)).Nodup → fv[j]? = some p → fv.lookup p.1 = some p.2
  | [], _, _, _, h => by simp at h
  | q :: r, 0, p, _, h => by
    simp at h
    subst h
    rw [List.lookup_cons]
    simp
  | q :: r, j + 1, p, nd, h => by
    have h' : r[j]? = some p := by simpa using h
    rw [List.map_cons, List.nodup_cons] at nd
    have ne : p.1 ≠ q.1 := fun z => nd.1 (by rw [← z]; exact List.mem_map_of_mem (List.mem_of_getElem? h'))
    rw [List.lookup_cons, beq_eq_false_iff_ne.mpr ne]
    exact lookup_fv nd.2 h'
section
variable {CX : CXT} {P : Program} {w : World} {K : PySem.W.Frag} {mg : Str → Option Value} {base : Heap} {N ps rest : List Str} {fv : List (Str × V)} {qual : Str} {scope : Scope} {f c' : Addr} {cl : List (Str × Addr)} {A : Around} {outer : List Env} {s s1 : Shared} {H : Hp} {E : XK} {us : List Value} {vs : List V} {obj : Obj}
theorem inv_startL (S : LamScope N ps fv rest cl scope) (hd : A.handled = none) (e0 : Env0 P w K mg base A outer s H) (L : LamAt H f c' obj qual cl fv) (hl : vs.length = ps.length) (r : Vals vs us) {h1 : Heap} {tk : Nat}
    (hns : h1.Ns s.heap.objs.size fun x => (ps.zip us).reverse.lookup x) (hk : ∀ b o, s.heap.get? b = some o → h1.get? b = some o) :
    Inv (cxL CX P w K mg base N qual scope f c' cl A outer s H E) [] (startL vs fv rest) (unt (cl.map (·.2)) H) { s with heap := h1, toks := tk } := by
  have noA : ∀ b : Addr, b ∉ (cxL CX P w K mg base N qual scope f c' cl A outer s H E).ex := fun b z => absurd (show b ∈ ([] : List Addr) from z) (by simp)
  have C := L.cells
  have cellAt : ∀ x c, cl.lookup x = some c → ∃ o u v, H c = some (.frz o (.own c)) ∧ o.data = .cell (some u) ∧ fv.lookup x = some v ∧ RelV v u ∧ s.heap.get? c = some o := fun x c e => by
    obtain ⟨o, u, v, a1, a2, a3, a4⟩ := L.cell x c (PySem.mem_of_lookup e)
    exact ⟨o, u, v, a1, a2, a3, a4, (e0.hok c _ a1).1⟩
  have inC : ∀ x c, cl.lookup x = some c → c ∈ cl.map (·.2) := fun x c e => List.mem_map.mpr ⟨(x, c), PySem.mem_of_lookup e, rfl⟩
  have hvu := r.length
  refine ⟨⟨e0.mod, S.kind, rfl, rfl, Nat.le_refl _, fun y z c h1 h2 => S.inj y z c h1 h2, fun y hy => ?_, fun y c z _ => absurd (show (false : Bool) = true from z) (by simp), fun _ => hd, Around.frames_deeper e0.frames, .inr ⟨rfl, rfl⟩, fun b z => absurd z (noA b), fun b o e => ?_, e0.bsz, fun b _ _ => noA b, fun b z => absurd z (noA b), e0.funs, fun b hb => ?_⟩,
    rfl, e0.bare, Un.kept hk, ⟨_, hns, fun i y v g1 g2 g3 => ?_⟩, fun y c h => ?_, ?_, fun y c h => unt_in (inC y c h), fun p hp => absurd (show p ∈ ([] : List (Addr × Obj)) from hp) (by simp), (C.hok e0.hok).kept hk, ?_⟩
  · have hy : scope.names.lookup y = some .cell ∨ scope.names.lookup y = some .free := hy
    rcases hy with hy | hy
    · exact absurd rfl (S.nocell _ (PySem.mem_of_lookup hy))
    · exact S.free y hy
  · have q := e0.bs b o e
    refine ⟨q.1, ?_⟩
    show unt _ H b = none
    by_cases hb : b ∈ cl.map (·.2)
    · exact unt_in hb
    · rw [unt_out hb]; exact q.2
  · show unt _ H b = none
    by_cases hb' : b ∈ cl.map (·.2)
    · exact unt_in hb'
    · rw [unt_out hb']; exact e0.frf b hb
  · have g1 : N[i]? = some y := g1
    rw [S.eqN] at g1
    unfold startL at g2
    by_cases h1 : i < vs.length
    · rw [List.getElem?_append_left (by rw [List.length_append, List.length_map]; omega), List.getElem?_append_left (by rw [List.length_map]; exact h1), List.getElem?_map] at g2
      have ha : vs[i]? = some v := by
        cases e : vs[i]? with
        | none => rw [e] at g2; cases g2
        | some a => rw [e] at g2; cases g2; rfl
      obtain ⟨u, hu, rv⟩ := r.get ha
      rw [List.getElem?_append_left (by rw [List.length_append]; omega), List.getElem?_append_left (by omega)] at g1
      have hy := List.mem_of_getElem? g1
      have ndP : ps.Nodup := by
        have := S.nd
        rw [S.eqN] at this
        exact (List.nodup_append.mp (List.nodup_append.mp this).1).1
      refine ⟨u, rv, .inl ⟨S.par y hy, ?_⟩⟩
      have hz : (ps.zip us)[i]? = some (y, u) := by rw [List.getElem?_zip_eq_some]; exact ⟨g1, hu⟩
      exact lookup_reverse_zip ndP hz
    · by_cases h2 : i < vs.length + fv.length
      · rw [List.getElem?_append_left (by rw [List.length_append, List.length_map, List.length_map]; omega), List.getElem?_append_right (by rw [List.length_map]; omega), List.length_map, List.getElem?_map] at g2
        rw [List.getElem?_append_left (by rw [List.length_append, List.length_map]; omega), List.getElem?_append_right (by omega), List.getElem?_map, ← hl] at g1
        cases e : fv[i - vs.length]? with
        | none => rw [e] at g2; cases g2
        | some p =>
          rw [e] at g1 g2
          cases g1
          cases g2
          have ndF : (fv.map (·.1)).Nodup := by
            have := S.nd
            rw [S.eqN] at this
            exact (List.nodup_append.mp (List.nodup_append.mp this).1).2.1
          have hfree : scope.names.lookup p.1 = some .free := S.isFree p.1 (List.mem_map_of_mem (List.mem_of_getElem? e))
          obtain ⟨c, hc⟩ := S.free p.1 hfree
          obtain ⟨o, u, v, a1, a2, a3, a4, a5⟩ := cellAt p.1 c hc
          rw [lookup_fv ndF e] at a3
          cases a3
          exact ⟨u, a4, .inr ⟨.inr hfree, c, hc, o, hk _ _ a5, a2⟩⟩
      · rw [List.getElem?_append_right (by rw [List.length_append, List.length_map, List.length_map]; omega), List.getElem?_map] at g2
        cases e : rest[i - (vs.map some ++ fv.map fun p => some p.2).length]? with
        | none => rw [e] at g2; cases g2
        | some p => rw [e] at g2; cases g2
  · obtain ⟨o, u, v, a1, a2, _, _, a5⟩ := cellAt y c h
    exact ⟨some u, o, hk _ _ a5, a2⟩
  · show unt _ H s.heap.objs.size = none
    by_cases hb : s.heap.objs.size ∈ cl.map (·.2)
    · exact unt_in hb
    · rw [unt_out hb]; exact e0.hok.fresh (Nat.le_refl _)
  · unfold startL
    show _ = N.length
    rw [S.eqN]
    simp only [List.length_append, List.length_map]
    omega
end

section
variable {CX : CXT} {P : Program} {w : World} {K : PySem.W.Frag} {mg : Str → Option Value} {base : Heap} {N ps rest : List Str} {fv : List (Str × V)} {name qual : Str} {params : Arguments} {body : Expr} {scope : Scope} {f c' : Addr} {cl : List (Str × Addr)} {pm ctv : Value} {k : Nat} {sp : Sp}
/-- THE RULE for a lambda: its body's reading -/
theorem lam_of (S : LamScope N ps fv rest cl scope) (len : ∀ vs H Q E, sp vs H Q E → vs.length = ps.length)
    (at_ : ∀ vs H Q E, sp vs H Q E → LamAt H f c' (kla_obj name qual params body scope cl pm c' ctv) qual cl fv)
    (hbody : ∀ (A : Around) (outer : List Env) (s : Shared) (H : Hp) (vs : List V) (Q : VK) (E : XK), Room k (A.deeper (envX qual scope s.heap.objs.size f (.ref c') cl)) → HOk P w H s.heap → (∀ b ∈ frs outer, H b = none) → sp vs H Q E →
      ∃ t, PE (cxL CX P w K mg base N qual scope f c' cl A outer s H E) body t ∧ t (startL vs fv rest) (unt (cl.map (·.2)) H) (fun v H' => Q v (retr (cl.map (·.2)) H H'))) :
    FnOk P w K mg base CX (k + 1) f (kla_fn name qual params body scope cl pm (.ref c') ctv) ps sp := by
  refine ⟨len, fun A outer s H args us vs Q E hr e0 hb r hsp => ?_⟩
  have hl := len _ _ _ _ hsp
  have L := at_ _ _ _ _ hsp
  have C := L.cells
  have lim : s.heap.NoLimit := e0.mod.nolimit.keeps fun b o e => (e0.bs b o e).1
  obtain ⟨oc, hoc, vs0, t0, hd0, hv0⟩ := L.code
  have hrec : s.heap.CodeRec (.ref c') qual := ⟨c', oc, vs0, t0, rfl, (e0.hok c' _ hoc).1, hd0, hv0⟩
  refine kla_callFunE hr.depth (e0.hok f _ L.fn).1 rfl S.co S.gen rfl hrec (hb _ _ _ _ ?_)
  have hloc : ∀ x ∈ ps.zip us, scope.names.lookup x.1 = some .local := fun ⟨n, v⟩ hx => S.par n (List.of_mem_zip hx).1
  refine wpAny_newFunctionEnv S.nocell hloc (fun h₁ hns hsb => ?_) S.kind
  have hk₁ : ∀ b o, s.heap.get? b = some o → h₁.get? b = some o := fun b o e => hsb.extBut b o (Nat.ne_of_lt (Heap.lt_size e)) (Heap.get?_push_of_some _ e)
  refine ⟨lim.keeps hk₁, ?_⟩
  show codeAny _ _ (.expr body (envX qual scope s.heap.objs.size f (.ref c') cl)) _ _
  obtain ⟨t, ht, hq⟩ := hbody A outer s H vs Q E (hr.deeper _) e0.hok e0.frf hsp
  have I : Inv (cxL CX P w K mg base N qual scope f c' cl A outer s H E) [] (startL vs fv rest) (unt (cl.map (·.2)) H) { s with heap := h₁, toks := s.toks + (ps.zip us).length } := inv_startL S hr.hd e0 L hl r hns hk₁
  refine kla_codeExpr (wpAny_mono (ht [] _ _ _ _ I hq) (fun u s' hs => ?_) fun e s' hs => hs)
  obtain ⟨v, H', J, rv, q⟩ := hs
  have ub : Un (frs outer) [] (unt (cl.map (·.2)) H) H' s.heap s'.heap := J.base
  have cin : ∀ c ∈ cl.map (·.2), ∀ o x, H c = some (.frz o x) → s'.heap.get? c = some o ∧ H' c = none := fun c hc o x e => by
    have hg := (e0.hok c _ e).1
    have nfs : c ∉ frs outer := fun z => by
      have := e0.frf c z
      rw [e] at this; cases this
    exact ⟨ub.keep c o hg (unt_in hc) nfs (by simp), ub.free c o hg (unt_in hc) (by simp)⟩
  refine ⟨v, retr (cl.map (·.2)) H H', J.os, J.bare, un_retr (P := P) (w := w) C ub, hok_retr C (fun c hc o x e => (cin c hc o x e).1) (fun c hc => ?_) J.hok, rv, q⟩
  obtain ⟨o, v2, e, _⟩ := C c hc
  exact (cin c hc o _ e).2
/-- an exception passes out of a lambda -/
theorem passL {A : Around} {outer : List Env} {s : Shared} {H : Hp} {E E' : XK} (C : Cells H (cl.map (·.2))) (e0 : HOk P w H s.heap) (frf : ∀ b ∈ frs outer, H b = none) (hE : ∀ c o H', E' c o H' → E c o (retr (cl.map (·.2)) H H')) :
    Passes (CXe P w) (cxL (CXe P w) P w K mg base N qual scope f c' cl A outer s H E) E' := by
  intro pins σ H1 s1 e s' I h
  obtain ⟨x, B, cls, a0, H', rfl, hos, hb, fl, hok, un, kB, tB, q⟩ := h
  have i := I.excIn un kB tB
  refine leave_st I.ok.frames rfl (ExcSt.ofFly fl) fun h' fl' up => ?_
  have no : ∀ b, H b = none → b ∉ cl.map (·.2) := fun b n z => by
    obtain ⟨o, v, q, _⟩ := C b z
    rw [n] at q; cases q
  have noex : ∀ b : Addr, b ∉ (cxL (CXe P w) P w K mg base N qual scope f c' cl A outer s H E).ex := fun b z => absurd (show b ∈ ([] : List Addr) from z) (by simp)
  have kB0 : ∀ b o, s.heap.get? b = some o → unt (cl.map (·.2)) H b = none → b ∉ frs outer → B.get? b = some o := fun b o q n hb => i.kB b o q n hb (noex b)
  have tB0 : ∀ b o, s.heap.get? b = some o → b ∉ frs outer → ∃ o', B.get? b = some o' := fun b o q hb => i.tB b o q hb (noex b)
  have u2 : Un (frs outer) [] (unt (cl.map (·.2)) H) H' s.heap h' := un_on (h1 := s'.heap) i.un I.ok.funs I.ok.frf kB0 tB0 fl'.1 up
  have cin : ∀ c ∈ cl.map (·.2), ∀ o z, H c = some (.frz o z) → B.get? c = some o ∧ H' c = none := fun c hc o z e => by
    have hg := (e0 c _ e).1
    have nfs : c ∉ frs outer := fun y => by
      have := frf c y
      rw [e] at this; cases this
    exact ⟨kB0 c o hg (unt_in hc) nfs, u2.free c o hg (unt_in hc) (by simp)⟩
  refine ⟨x, B, cls, a0, retr (cl.map (·.2)) H H', rfl, hos.trans I.os, hb, fl', hok_retr C (fun c hc o z e => (cin c hc o z e).1) (fun c hc => ?_) hok, un_retr (P := P) (w := w) C u2, fun b o q n hb => kB0 b o q (by rw [unt_out (no b n)]; exact n) hb, tB0, hE _ _ _ q⟩
  obtain ⟨o, v2, e, _⟩ := C c hc
  exact (cin c hc o _ e).2
end

/-! ### f(e), f a name of the frame that holds a function made here -/
def FnFrz (H : Hp) (f : Addr) : Prop := ∃ o fd u, H f = some (.frz o u) ∧ o.data = .func fd
def tCallL (i : Nat) (f : Addr) (sp : Sp) (E : XK) (t : TA) : TE := fun σ H Q => σ[i]? = some (some (V.ref f)) ∧ FnFrz H f ∧ t σ H fun vs H1 => FnFrz H1 f ∧ sp vs H1 Q E
theorem FnFrz.at {X : Cx} {pins : List (Addr × Obj)} {s : Shared} {σ : St} {H : Hp} {f : Addr} (h : FnFrz H f) (I : Inv X pins σ H s) : FnAt f s.heap := by
  obtain ⟨⟨oc, od, dt, sl⟩, fd, u, e, hd⟩ := h
  cases hd
  exact ⟨oc, od, fd, sl, (I.hok f _ e).1⟩
theorem pe_callL {X : Cx} {CX : CXT} {k i : Nat} {f : Addr} {fd : FuncData} {ps : List Str} {sp : Sp} {E : XK} {x : Str} {p pos : Pos} {e : Expr} {es : List Expr} {t : TA} (F : FnOk X.prog X.w X.K X.mg X.base CX k f fd ps sp) (hr : Room k X.A)
    (hN : X.N[i]? = some x) (hv : Vis X.env.scope x) (hb : Binds X.K fd ps []) (hx : Passes CX X E) (ha : PA X (e :: es) t) (hdb : (x == ("__debug__" : Str)) = false := by decide) (hcd : (x == ("__classdict__" : Str)) = false := by decide)
    (he : starEach (e :: es) X.env = (false, eval e X.env) :: starEach es X.env := by rfl) (hpl : (backTo pos (starEach es X.env)).any (·.1) = false := by rfl) :
    PE X (.Call (.Name x p) (e :: es) [] pos) (tCallL i f sp E t) := by
  intro pins s σ H Q I h
  obtain ⟨h1, h2, h3⟩ := h
  refine wpAny_Call_Name_kw (thn (pe_var (X := X) hN hv hdb hcd pins s σ H (fun v H' => v = .ref f ∧ H' = H) I ⟨_, h1, rfl, rfl⟩) fun u s1 ⟨v, H1, I1, r1, q1, q2⟩ => ?_)
  subst q1 q2
  obtain rfl : u = Value.ref f := r1
  refine callWith_F (h2.at I1) (thn (ha pos pins s1 σ H1 _ I1 h3) fun us s2 ⟨vs, H2, I2, r, q3, q4⟩ => ⟨q3.at I2, ?_⟩) he hpl
  exact run_fn (ds := []) (dvs := []) F hr hb .nil hx I2 r (by rw [List.append_nil]; exact q4)

/-! ### f(e, ..) while the frame's own cells are held fast -/
def CellVals (X : Cx) (σ : St) (Hc : Hp) : Prop := ∀ x c, X.env.cells.lookup x = some c → ∃ (o : Obj) (u : Value) (v : V) (i : Nat), Hc c = some (.frz o (.own c)) ∧ o.data = .cell (some u) ∧ X.N[i]? = some x ∧ σ[i]? = some (some v) ∧ RelV v u
def tCallC (X : Cx) (sp : Sp) (E : XK) (t : TA) : TE := fun σ H Q => t σ H fun vs H1 => (∀ x c, X.env.cells.lookup x = some c → Vis X.env.scope x ∧ X.env.kindOf x ≠ some .local ∧ ∃ (i : Nat) (v : V), X.N[i]? = some x ∧ σ[i]? = some (some v)) ∧
  ∀ Hc : Hp, (∀ b, b ∉ X.env.cells.map (·.2) → Hc b = H1 b) → (∀ b ∈ X.env.cells.map (·.2), H1 b = none) → CellVals X σ Hc → sp vs Hc (fun v H' => Q v (unt (X.env.cells.map (·.2)) H')) E
theorem pe_callC {X : Cx} {CX : CXT} {k : Nat} {f : Addr} {fd : FuncData} {ps : List Str} {sp : Sp} {E : XK} {x : Str} {p pos : Pos} {e : Expr} {es : List Expr} {t : TA} (F : FnOk X.prog X.w X.K X.mg X.base CX k f fd ps sp) (hr : Room k X.A) (hg : Gl X x) (hm : X.mg x = some (.ref f)) (hk : PySem.W.keepIn X.K (.ref f) = true) (hb : Binds X.K fd ps [])
    (hex : X.ex = []) (hab : ∀ x c, X.env.cells.lookup x = some c → X.s_0.heap.objs.size ≤ c) (nd : (X.env.cells.map (·.1)).Nodup) (hCX : ∀ H s e s', ¬ CX X.stack H s E e s')
    (ha : PA X (e :: es) t) (hdb : (x == ("__debug__" : Str)) = false := by decide) (he : starEach (e :: es) X.env = (false, eval e X.env) :: starEach es X.env := by rfl) (hpl : (backTo pos (starEach es X.env)).any (·.1) = false := by rfl) :
    PE X (.Call (.Name x p) (e :: es) [] pos) (tCallC X sp E t) := by
  intro pins s σ H Q I h
  refine wpAny_Call_Name_kw (ld_glob I hg hm ?_ hdb)
  refine PySem.W.callWith_K (h₀ := X.base) I.ok.mod.kin hk (thn (ha pos pins s σ H _ I h) fun us s1 ⟨vs, H1, I1, r, q0, q⟩ => ⟨I1.kIn, ?_⟩) he hpl
  let cs := X.env.cells.map (·.2)
  have inl : ∀ c ∈ cs, ∃ x, X.env.cells.lookup x = some c := fun c hc => by
    obtain ⟨⟨y, c2⟩, hm2, e2⟩ := List.mem_map.mp hc
    have e2 : c2 = c := e2
    subst e2
    refine ⟨y, ?_⟩
    have : ∀ (l : List (Str × Addr)), (l.map (·.1)).Nodup → (y, c2) ∈ l → l.lookup y = some c2 := fun l => by
      induction l with
      | nil => intro _ z; cases z
      | cons a l ih =>
        intro nd z
        rw [List.map_cons, List.nodup_cons] at nd
        rcases List.mem_cons.mp z with z | z
        · subst z
          rw [List.lookup_cons]; simp
        · rw [List.lookup_cons, beq_eq_false_iff_ne.mpr (fun w => nd.1 (by rw [← w]; exact List.mem_map_of_mem z))]
          exact ih nd.2 z
    exact this _ nd hm2
  have cellO : ∀ c ∈ cs, ∃ o v, s1.heap.get? c = some o ∧ o.data = .cell v := fun c hc => by
    obtain ⟨y, hy⟩ := inl c hc
    obtain ⟨v, o, a, b⟩ := I1.cell y c hy
    exact ⟨o, v, a, b⟩
  let Hc : Hp := fun b => if b ∈ cs then (s1.heap.get? b).map (fun o => HO.frz o (.own b)) else H1 b
  have Hin : ∀ c ∈ cs, ∃ o v, Hc c = some (.frz o (.own c)) ∧ s1.heap.get? c = some o ∧ o.data = .cell v := fun c hc => by
    obtain ⟨o, v, a, b⟩ := cellO c hc
    refine ⟨o, v, ?_, a, b⟩
    show (if c ∈ cs then _ else _) = _
    rw [if_pos hc, a]
    rfl
  have Hout : ∀ b, b ∉ cs → Hc b = H1 b := fun b hb => if_neg hb
  have H1n : ∀ b ∈ cs, H1 b = none := fun b hb => by
    obtain ⟨y, hy⟩ := inl b hb
    exact I1.freeC y b hy
  have noC : ∀ {d : Addr} {u : HO}, H1 d = some u → d ∉ cs := fun {d u} e z => by rw [H1n d z] at e; cases e
  have cell : CellVals X σ Hc := fun y c hy => by
    obtain ⟨hvis, hnl, i, v, e1, e2⟩ := q0 y c hy
    obtain ⟨m, hn, hl⟩ := I1.loc
    obtain ⟨u, rv, lk⟩ := hl i y v e1 e2 hvis
    have hc : c ∈ cs := List.mem_map.mpr ⟨(y, c), PySem.mem_of_lookup hy, rfl⟩
    obtain ⟨o, v2, a1, a2, a3⟩ := Hin c hc
    rcases lk with ⟨z, _⟩ | ⟨_, c2, e3, o2, g1, g2⟩
    · exact absurd z hnl
    · rw [hy] at e3
      cases e3
      rw [a2] at g1
      cases g1
      exact ⟨o, u, v, i, a1, g2, e1, e2, rv⟩
  have hok : HOk X.prog X.w Hc s1.heap := fun b u e => by
    by_cases hb : b ∈ cs
    · obtain ⟨o, v2, a1, a2, _⟩ := Hin b hb
      rw [a1] at e; cases e
      exact ⟨a2, _, a2⟩
    · rw [Hout b hb] at e
      exact (I1.hok b u e).stay (fun _ _ _ q => q) (fun d q => by rw [Hout d (noC q)]; exact q) fun d xs q => by rw [Hout d (noC q)]; exact q
  have E1 := I1.env0
  have hcb : ∀ b o, X.base.get? b = some o → b ∉ cs := fun b o e z => by
    obtain ⟨y, hy⟩ := inl b z
    have h1 := hab y b hy
    have h2 := Heap.lt_size e
    have h3 := I1.ok.bsz
    exact absurd (Nat.lt_of_lt_of_le h2 (Nat.le_trans h3 h1)) (Nat.lt_irrefl _)
  have hcf : ∀ b ∈ frs X.stack, b ∉ cs := fun b hb z => by
    obtain ⟨y, hy⟩ := inl b z
    rcases List.mem_cons.mp (I1.stkSub b hb) with e | e
    · exact I1.cne y b hy e
    · obtain ⟨_, o, ho, _⟩ := I1.ok.funs.mem e
      have h1 := hab y b hy
      have h2 := Heap.lt_size ho
      exact absurd (Nat.lt_of_lt_of_le h2 h1) (Nat.lt_irrefl _)
  have E2 : Env0 X.prog X.w X.K X.mg X.base X.A X.stack s1 Hc := ⟨E1.frames, E1.mod, fun b o e => ⟨(E1.bs b o e).1, by rw [Hout b (hcb b o e)]; exact (E1.bs b o e).2⟩, E1.bsz, E1.funs, fun b hb => by rw [Hout b (hcf b hb)]; exact E1.frf b hb, hok, E1.bare⟩
  have hs := q Hc Hout H1n cell
  have hl : us.length = ps.length := by rw [← r.length]; exact F.len _ _ _ _ hs
  refine wpAny_call (codeAny_mono (F.run X.A X.stack s1 Hc ⟨us, []⟩ us vs _ E hr E2 (by have := hb s1 us I1.kIn (by rw [List.append_nil]; exact hl); rw [List.append_nil] at this; exact this) r hs) fun r2 s' hq => ?_)
  cases r2 with
  | error e => exact absurd hq (hCX _ _ _ _)
  | ok fl =>
    cases fl with
    | next => exact False.elim hq
    | brk => exact False.elim hq
    | cont => exact False.elim hq
    | ret u =>
      obtain ⟨v, H', os, bare, un, hok', rv, q2⟩ := hq
      have C' : Cells H' cs := fun c hc => by
        obtain ⟨o, v2, a1, a2, a3⟩ := Hin c hc
        exact ⟨o, v2, un.frzs c o _ a1, a3⟩
      have noF : ∀ c ∈ cs, ∀ o, Hc c = some (.frz o (.own c)) → s'.heap.get? c = some o := fun c hc o e => (hok' c _ (un.frzs c o _ e)).1
      have hH1 : ∀ b, H1 b = none → b ∉ cs → Hc b = none := fun b n hb => by rw [Hout b hb]; exact n
      refine ⟨v, unt cs H', I1.call' (ch := []) os ⟨fun b o g n hb hx => ?_, fun b o g n hb hx => ?_, fun b o g n hx => ?_, fun b o g hx => un.there b o g hx, fun b xs g => ?_, fun b o z g => ?_, fun b ps g => ?_⟩ (C'.hok hok') bare (fun _ z => nomatch z), rv, q2⟩
      · by_cases hc : b ∈ cs
        · obtain ⟨o2, v2, a1, a2, _⟩ := Hin b hc
          rw [g] at a2; cases a2
          exact noF b hc _ a1
        · exact un.keep b o g (hH1 b n hc) hb hx
      · have hc := hcf b hb
        exact un.slot b o g (hH1 b n hc) hb hx
      · by_cases hc : b ∈ cs
        · exact unt_in hc
        · rw [unt_out hc]
          exact un.free b o g (hH1 b n hc) hx
      · rw [unt_out (noC g)]
        exact un.tups b xs (by rw [Hout b (noC g)]; exact g)
      · rw [unt_out (noC g)]
        exact un.frzs b o z (by rw [Hout b (noC g)]; exact g)
      · obtain ⟨m, e⟩ := un.tbls b ps (by rw [Hout b (noC g)]; exact g)
        exact ⟨m, by rw [unt_out (noC g)]; exact e⟩
end L2

set_option maxRecDepth 100000
set_option linter.all false
namespace L2
open PySem PySem.Spec PyProof.Rows
/-! ### try: body, any number of clauses without a name; nothing leaves the whole -/
inductive Hnd (X : Cx) : List ExceptHandler → List (Addr × TS) → Prop
  | nil : Hnd X [] []
  | cons {n : Str} {p q : Pos} {b : Stmt} {s : List Stmt} {C : Addr} {t : TS} {hs : List ExceptHandler} {cs : List (Addr × TS)} (g : Gl X n) (m : X.mg n = some (.ref C)) (h : ∀ e, PSs (X.inClause e) (b :: s) t) (r : Hnd X hs cs) (d : (n == ("__debug__" : Str)) = false) :
      Hnd X (.ExceptHandler (some (.Name n p)) none (b :: s) q :: hs) ((C, t) :: cs)
def Apart (K : PySem.W.Frag) : List Addr → Prop
  | [] => True
  | C :: r => PySem.W.exmOne K (.ref C) (.ref C) = some true ∧ (∀ D ∈ r, PySem.W.exmOne K (.ref D) (.ref C) = some false) ∧ Apart K r
theorem hnd_go {X : Cx} {pins : List (Addr × Obj)} {H' : Hp} {s : Shared} {x : Addr} {B : Heap} {a0 : Value} {D : Ends} (hd : X.calm = true → X.A.handled = none) (hxe : X.xe = fun _ _ => False) (hstk : X.stack = X.env :: X.outer)
    (I : Inv X pins (blank X) H' s) (kH : HOk X.prog X.w H' B) (kB : ∀ a o, X.s_0.heap.get? a = some o → X.H_0 a = none → a ∉ X.fs → a ∉ X.ex → B.get? a = some o) :
    ∀ {hs : List ExceptHandler} {cs : List (Addr × TS)}, Hnd X hs cs → Apart X.K (cs.map (·.1)) → ∀ (p : Addr × TS), p ∈ cs → p.2 D (blank X) H' → Heap.FlyingW B X.stack x (.ref p.1) a0 s.heap →
      (∀ h', Heap.FlyingW B X.stack x (.ref p.1) a0 h' → s.heap.UpToSlots h' → Inv X pins (blank X) H' { s with heap := h' }) →
      wpAny (model X.prog X.w) X.A (handleBy (.ref x) X.env hs) (SP X pins D) X.xe s := by
  intro hs cs hn
  induction hn with
  | nil => intro _ p hp; cases hp
  | @cons n np nq b st C t hs cs g m h r d ih =>
    intro ap p hp ht fl aft
    obtain ⟨a1, a2, a3⟩ : PySem.W.exmOne X.K (.ref C) (.ref C) = some true ∧ (∀ D ∈ cs.map (fun (p : Addr × TS) => p.1), PySem.W.exmOne X.K (.ref D) (.ref C) = some false) ∧ Apart X.K (cs.map (fun (p : Addr × TS) => p.1)) := ap
    rcases List.mem_cons.mp hp with e | e
    · subst e
      exact clause_at hd hxe hstk I fl kH kB g m a1 d (h _) (fun _ => ht) (fun z => by cases z) aft
    · exact clause_at hd hxe hstk I fl kH kB g m (a2 p.1 (List.mem_map_of_mem e)) d (h _) (fun z => by cases z) (fun _ => ih a3 p e ht fl aft) aft
def tTryN (cs : List (Addr × TS)) (st : St) (tb : XK → TS) : TS := fun D σ H => tb (fun cls _ H' => ∃ p ∈ cs, cls = .ref p.1 ∧ p.2 D st H') D σ H
theorem ps_tryN {X : Cx} {body : List Stmt} {hs : List ExceptHandler} {cs : List (Addr × TS)} {pos : Pos} {tb : XK → TS} (hxe : X.xe = fun _ _ => False) (hcalm : X.calm = true) (hex : X.ex = []) (hstk : X.stack = X.env :: X.outer) (hfr : X.env.frame = some X.env.locals)
    (hb : ∀ (E' : Value → Shared → Prop) (pn : List (Addr × Obj)) (Et : XK), Passes (CXe X.prog X.w) (X.inTry E' pn) Et → PSs (X.inTry E' pn) body (tb Et))
    (hn : Hnd X hs cs) (ap : Apart X.K (cs.map (·.1))) (hne : ∃ h r, hs = h :: r) : PS X (.Try body hs [] [] pos) (tTryN cs (blank X) tb) := by
  obtain ⟨h0, r0, e0⟩ := hne
  subst e0
  intro pins s σ H D I h
  refine wpAny_Try_except ?_
  have run := hb (fun e s₁ => wpAny (model X.prog X.w) X.A (noteFrame e X.env) (fun _ s₂ => wpAny (model X.prog X.w) X.A (setFlight e none) (fun _ s₃ =>
      wpAny (model X.prog X.w) X.A (handleBy e X.env (h0 :: r0)) (SP X pins D) X.xe s₃) X.xe s₂) X.xe s₁) (X.pn ++ pins)
    (fun cls _ H' => ∃ p ∈ cs, cls = .ref p.1 ∧ p.2 D (blank X) H') ?_
  · refine wpAny_mono (run [] s σ H D (I.inTry _) h) (fun fl s3 q => ?_) fun _ _ z => z
    have q' := q.ofTry
    cases fl with
    | next => exact wpAny_execs_nil q'
    | brk => exact q'
    | cont => exact q'
    | ret u => exact q'
  · intro qs σ2 H2 s2' e s' I2 hc
    have I2' : Inv X pins σ2 H2 s2' := I2.ofTry
    obtain ⟨x, B, cls, a0, H', rfl, hos, hbr, fl, hok, un, kB, tB, hE⟩ := hc
    have fl : Heap.FlyingW B X.stack x cls a0 s'.heap := fl
    have un : Un (frs X.stack) [] H2 H' s2'.heap s'.heap := un
    have kB : ∀ b o, s2'.heap.get? b = some o → H2 b = none → b ∉ frs X.stack → B.get? b = some o := kB
    have tB : ∀ b o, s2'.heap.get? b = some o → b ∉ frs X.stack → ∃ o', B.get? b = some o' := tB
    have i := I2'.excIn un kB tB
    have fr2 : X.A.frames = some (X.env :: X.outer) := by rw [← hstk]; exact I2'.ok.frames
    have aft : ∀ h', B.StaysIn h' → s'.heap.UpToSlots h' → Inv X pins (blank X) H' { s' with heap := h' } := fun h' st up => by
      have u2 := un_on un I2'.stack I2'.stkFree kB tB st up
      have I3 : Inv X pins σ2 H' { s' with heap := h' } := I2'.call' (ch := []) hos u2 (hok.kept st) hbr fun _ z => nomatch z
      exact I3.weak (by rw [I3.len]; unfold blank; rw [List.length_replicate]) fun j v z => (blank_none z).elim
    have xst : ExcSt B (X.env :: X.outer) x cls a0 s'.heap := by rw [← hstk]; exact ExcSt.ofFly fl
    show wpAny (model X.prog X.w) X.A (noteFrame (.ref x) X.env) _ _ s'
    refine note_st fr2 hfr xst fun h4 held up4 => ?_
    refine wpAny_landsW held fun h5 fl5 up5 => ?_
    have fl5 : Heap.FlyingW B X.stack x cls a0 h5 := by rw [hstk]; exact fl5
    have I5 := aft h5 fl5.1 (up4.trans up5)
    have hd : X.calm = true → X.A.handled = none := I2'.ok.hd
    obtain ⟨p, hp, rfl, ht⟩ := hE
    exact hnd_go (s := { s' with heap := h5 }) hd hxe hstk I5 hok i.kB hn ap p hp ht fl5 fun h' f6 up6 => aft h' f6.1 ((up4.trans up5).trans up6)
end L2

set_option maxRecDepth 100000
set_option linter.all false
namespace Tw
open PySem PySem.Spec PyProof.Rows

/-! ### a set of the numbers 0 to 3, just as it lies -/
def canL (m : Nat) : List Nat := (List.range 4).filter fun i => m.testBit i
def canEs (m : Nat) (tok : Nat → Tok) : Array (Int × Value) := ((canL m).map fun (i : Nat) => (((i : Nat) : Int), Value.int ((i : Nat) : Int) (tok i))).toArray
def canT (m : Nat) (led : Bool) : SetTable := { mask := 7, place := (canL m).toArray, dummies := #[], finger := 0, led := led, moves := 0, plain := true }
def canO (m : Nat) (tok : Nat → Tok) (led : Bool) (ep : Nat) : Obj := { cls := .type "set", data := .set (canEs m tok) ep (canT m led) }
def setTok (tok : Nat → Tok) (v : Nat) (t : Tok) : Nat → Tok := fun i => if i = v then t else tok i
theorem sixteen {m : Nat} (h : m < 16) : m = 0 ∨ m = 1 ∨ m = 2 ∨ m = 3 ∨ m = 4 ∨ m = 5 ∨ m = 6 ∨ m = 7 ∨ m = 8 ∨ m = 9 ∨ m = 10 ∨ m = 11 ∨ m = 12 ∨ m = 13 ∨ m = 14 ∨ m = 15 := by omega
theorem four {v : Nat} (h : v < 4) : v = 0 ∨ v = 1 ∨ v = 2 ∨ v = 3 := by omega
theorem can_lay {m v : Nat} (hm : m < 16) (hv : v < 4) (hb : m.testBit v = false) (tok : Nat → Tok) (led : Bool) (t : Tok) :
    layNew (canT m led) (canEs m tok) (v : Int) (.int (v : Int) t) = (canEs (m ||| (1 <<< v)) (setTok tok v t), canT (m ||| (1 <<< v)) led, false, false) := by
  rcases sixteen hm with rfl | rfl | rfl | rfl | rfl | rfl | rfl | rfl | rfl | rfl | rfl | rfl | rfl | rfl | rfl | rfl <;> rcases four hv with rfl | rfl | rfl | rfl <;> first | (exact absurd hb (by decide)) | kernel_rfl
theorem can_fits {m : Nat} (hm : m < 16) (tok : Nat → Tok) (led : Bool) : (canT m led).fits (canEs m tok).size = true := by
  rcases sixteen hm with rfl | rfl | rfl | rfl | rfl | rfl | rfl | rfl | rfl | rfl | rfl | rfl | rfl | rfl | rfl | rfl <;> rfl
theorem can_full {m : Nat} (hm : m < 16) (led : Bool) : (canT m led).tooFull = false := by
  rcases sixteen hm with rfl | rfl | rfl | rfl | rfl | rfl | rfl | rfl | rfl | rfl | rfl | rfl | rfl | rfl | rfl | rfl <;> rfl
theorem can_size {m : Nat} (tok : Nat → Tok) : (canEs m tok).size ≤ 4 := by
  unfold canEs canL
  rw [List.size_toArray, List.length_map]
  exact Nat.le_trans (List.length_filter_le _ _) (by simp)
theorem can_or {m v : Nat} (hm : m < 16) (hv : v < 4) : m ||| (1 <<< v) < 16 := by
  rcases sixteen hm with rfl | rfl | rfl | rfl | rfl | rfl | rfl | rfl | rfl | rfl | rfl | rfl | rfl | rfl | rfl | rfl <;> rcases four hv with rfl | rfl | rfl | rfl <;> decide
theorem can_elems {prog : Program} {w : World} {m : Nat} (tok : Nat → Tok) : ElemsOf (intKind prog w) (canEs m tok).toList := fun e he => by
  unfold canEs at he
  obtain ⟨i, hi, rfl⟩ := List.mem_map.mp he
  have h4 : i < 4 := List.mem_range.mp (List.mem_filter.mp hi).1
  refine ⟨⟨(i : Int), intKind_is _ _ _ _, ?_⟩, rfl⟩
  rcases four h4 with rfl | rfl | rfl | rfl <;> rfl
theorem can_find {prog : Program} {w : World} {m v : Nat} (hm : m < 16) (hv : v < 4) (tok : Nat → Tok) : ((canEs m tok).toList.findIdx? fun e => (intKind prog w).is (v : Int) e.2).isSome = m.testBit v := by
  rcases sixteen hm with rfl | rfl | rfl | rfl | rfl | rfl | rfl | rfl | rfl | rfl | rfl | rfl | rfl | rfl | rfl | rfl <;> rcases four hv with rfl | rfl | rfl | rfl <;> rfl
section
variable {prog : Program} {w : World} {A : Around} {E : Value → Shared → Prop} {s : Shared}
theorem can_add {a : Addr} {m v ep : Nat} {tok : Nat → Tok} {led : Bool} {t : Tok} {Q : Bool → Shared → Prop} (hm : m < 16) (hv : v < 4) (ho : s.heap.get? a = some (canO m tok led ep))
    (h : ∀ b h' tok' ep', Heap.SameBut a s.heap h' → h'.get? a = some (canO (m ||| (1 <<< v)) tok' led ep') → Q b { s with heap := h' }) :
    wpAny (model prog w) A (setAddHashed a (.int (v : Int) t) ((intKind prog w).hash (v : Int))) Q E s := by
  have hf := can_fits hm tok led
  have hel := can_elems (prog := prog) (w := w) (m := m) tok
  have hsz := can_size (m := m) tok
  unfold setAddHashed setAddHashedIn
  refine wpAny_holding (wpAny_bind (wpAny_setState_of ho rfl hf ?_))
  dsimp only
  rw [byScan_of (knd := intKind prog w) rfl (by unfold scanBound; omega) hel]
  simp only [↓reduceIte]
  unfold setAddByScan
  refine wpAny_bind ?_
  refine wpAny_bind (wpAny_rule ?_)
  refine wpAny_bind (wpAny_setScan_of (knd := intKind prog w) (intKind_is _ _ _ _) ho rfl hf hel ?_)
  have hfi := can_find (prog := prog) (w := w) hm hv tok
  cases hr : (canEs m tok).toList.findIdx? (fun e => (intKind prog w).is (v : Int) e.2) with
  | some j =>
    rw [hr] at hfi
    have hb : m.testBit v = true := hfi.symm
    have em : m ||| (1 <<< v) = m := by
      rcases sixteen hm with rfl | rfl | rfl | rfl | rfl | rfl | rfl | rfl | rfl | rfl | rfl | rfl | rfl | rfl | rfl | rfl <;> rcases four hv with rfl | rfl | rfl | rfl <;> first | rfl | (exact absurd hb (by decide))
    dsimp only
    refine wpAny_pure (wpAny_pure ?_)
    have e : s = { s with heap := s.heap } := by cases s; rfl
    rw [e]
    exact h false s.heap tok ep (Heap.SameBut.refl a s.heap) (by rw [em]; exact ho)
  | none =>
    rw [hr] at hfi
    have hb : m.testBit v = false := hfi.symm
    dsimp only
    have hh : (intKind prog w).hash (v : Int) = (v : Int) := by rcases four hv with rfl | rfl | rfl | rfl <;> rfl
    rw [hh, can_lay hm hv hb tok led t]
    dsimp only
    refine wpAny_bind (m := pure ()) (wpAny_pure ?_)
    have hpl : (canT (m ||| (1 <<< v)) led).plain = true := rfl
    rw [if_pos hpl, hashByValue_scannable 8 rfl]
    refine wpAny_bind (wpAny_pure ?_)
    rw [if_pos (show plainKind (Value.int (v : Int) t) = true from rfl), can_full (can_or hm hv)]
    have hsz' := can_size (m := m ||| (1 <<< v)) (setTok tok v t)
    refine wpAny_bind (wpAny_storeSet_of ho rfl ?_ (fits_of_scanBound (by unfold scanBound; omega)))
    simp only [Bool.and_false, Bool.false_eq_true, ↓reduceIte]
    refine wpAny_pure (wpAny_pure (h true _ (setTok tok v t) (ep + 1) (Heap.SameBut.update s.heap a _) ?_))
    have := Heap.get?_update_self (Obj.putSet (canEs (m ||| (1 <<< v)) (setTok tok v t)) (canT (m ||| (1 <<< v)) led)) ho rfl
    exact this
end

/-- the bits of some numbers -/
def bitsIn : List Int → Nat → Nat
  | [], m => m
  | v :: r, m => bitsIn r (m ||| (1 <<< v.toNat))
section
variable {prog : Program} {w : World} {A : Around} {E : Value → Shared → Prop} {s : Shared}
theorem can_loop {I l : Addr} {items : Array Value} {ns : List Int} {R : Result → Shared → Prop} (W : Walks prog w A.in1 I [I, l] [I] items.size (fun i v => items[i]? = some v) (fun i h => h.IsListIter I l i ∧ h.IsList l items)) (S : Addr) (nI : S ≠ I) (nl : S ≠ l)
    (hi : IntsAre items.toList ns) (h4 : ∀ n ∈ ns, 0 ≤ n ∧ n < 4) (led : Bool) :
    ∀ (k i : Nat) (s : Shared) (m : Nat) (tok : Nat → Tok) (ep : Nat), items.size - i = k → i ≤ items.size → m < 16 → (s.heap.IsListIter I l i ∧ s.heap.IsList l items) → s.heap.get? S = some (canO m tok led ep) →
      (∀ (h' : Heap) (tk : Nat) (tok' : Nat → Tok) (ep' : Nat), (∀ b o, b ≠ S → b ≠ I → s.heap.get? b = some o → h'.get? b = some o) → h'.get? S = some (canO (bitsIn (ns.drop i) m) tok' led ep') → bitsIn (ns.drop i) m < 16 → R (.ok (.ret .none)) { s with heap := h', toks := tk }) →
      codeAny (model prog w) A (.builtin "set.update.loop" ⟨[.ref S, .ref I], []⟩) R s := by
  have hln : items.size = ns.length := by rw [← Array.length_toList]; exact hi.length
  intro k
  induction k with
  | zero =>
    intro i s m tok ep hk hi' hm st ho hR
    have ei : i = items.size := by omega
    subst ei
    refine codeAny_builtin PyProof.Rows.F.entry_set_update_loop ?_
    rw [Around.under_plainId PyProof.Rows.F.plain_set_update_loop _]
    refine wpAny_bind (m := pyNext (.ref I)) (W.done s _ _ st fun h' tk kp => ?_)
    have ed : ns.drop items.size = [] := List.drop_eq_nil_of_le (by omega)
    rw [ed] at hR
    refine wpAny_pure (hR h' tk tok ep (fun b o _ nb e => kp b o (by simpa using nb) e) (kp S _ (by simpa using nI) ho) hm)
  | succ k ih =>
    intro i s m tok ep hk hi' hm st ho hR
    have hlt : i < items.size := by omega
    refine codeAny_builtin PyProof.Rows.F.entry_set_update_loop ?_
    rw [Around.under_plainId PyProof.Rows.F.plain_set_update_loop _]
    refine wpAny_bind (m := pyNext (.ref I)) (W.item i s _ _ hlt st fun v h1 tk1 hv st1 kp1 => ?_)
    have hin : i < ns.length := by omega
    have hnv : ns[i]? = some ns[i] := List.getElem?_eq_getElem hin
    obtain ⟨t, rfl⟩ : ∃ t, v = .int ns[i] t := by
      obtain ⟨t, e⟩ := PyProof.Rows.IntsAre.int_at hi i v (by rw [Array.getElem?_toList]; exact hv)
      refine ⟨t, ?_⟩
      rw [e, List.getD_eq_getElem?_getD, hnv]
      rfl
    obtain ⟨g0, g4⟩ := h4 ns[i] (List.getElem_mem hin)
    obtain ⟨vn, hvn⟩ : ∃ vn : Nat, ns[i] = (vn : Int) := ⟨ns[i].toNat, by omega⟩
    have hv4 : vn < 4 := by omega
    have ho1 : h1.get? S = some (canO m tok led ep) := kp1 S _ (by simpa using nI) ho
    have edr : ns.drop i = (vn : Int) :: ns.drop (i + 1) := by rw [List.drop_eq_getElem_cons hin, hvn]
    rw [edr] at hR
    rw [hvn]
    refine wpAny_bind (m := holding [Value.int (vn : Int) t] (setAdd S (.int (vn : Int) t))) (wpAny_holding ?_)
    unfold setAdd
    refine wpAny_holding (wpAny_bind ((intKind prog w).pyHash (k := (vn : Int)) (intKind_is _ _ _ _) ?_))
    refine can_add (s := { s with heap := h1, toks := tk1 + 1 }) hm hv4 ho1 fun b h2 tok2 ep2 sb ho2 => ?_
    have k2 : ∀ b o, b ≠ S → h1.get? b = some o → h2.get? b = some o := fun b o nb e => by rw [sb.2 b nb]; exact e
    refine wpAny_pure ⟨plainId_quiet PyProof.Rows.F.plain_set_update_loop _, ih (i + 1) { s with heap := h2, toks := tk1 + 1 } _ tok2 ep2 (by omega) hlt (can_or hm hv4) ⟨st1.1.at fun o e => k2 I o (Ne.symm nI) e, st1.2.at fun o e => k2 l o (Ne.symm nl) e⟩ ho2 fun h3 tk3 tok3 ep3 kp3 ho3 lt3 => ?_⟩
    refine hR h3 tk3 tok3 ep3 (fun b o nS nb e => kp3 b o nS nb (k2 b o nS (kp1 b o (by simpa using nb) e))) ?_ ?_
    · show h3.get? S = some (canO (bitsIn (ns.drop (i + 1)) (m ||| (1 <<< ((vn : Nat) : Int).toNat))) tok3 led ep3)
      rw [Int.toNat_natCast]
      exact ho3
    · show bitsIn (ns.drop (i + 1)) (m ||| (1 <<< ((vn : Nat) : Int).toNat)) < 16
      rw [Int.toNat_natCast]
      exact lt3
end
end Tw

set_option maxRecDepth 100000
set_option linter.all false
namespace Tw
open PySem PySem.Spec PyProof.Rows
section
variable {prog : Program} {w : World} {A : Around} {E : Value → Shared → Prop} {s : Shared}
def ledOf (w : World) : Bool := !w.params.followText "set-order"
theorem can_new (a : Value) {R : Value → Shared → Prop} (k : R (.ref s.heap.objs.size) { s with heap := s.heap.push (canO 0 (fun _ => 0) (ledOf w) 0) }) :
    codeAny (model prog w) A (.call (.builtin "set.__new__") ⟨[.type "set", a], []⟩) (wants R E) s := by
  refine codeAny_of_tree (?_ : wpAny _ A.in1 (do checkBuiltinCall "set.__new__" ⟨[.type "set", a], []⟩; again (.builtin "set.__new__" ⟨[.type "set", a], []⟩)) _ _ s)
  refine wpAny_bind (wpAny_of_eq (F.newCall_set_1 a) (wpAny_pure ⟨plainId_quiet F.plain_set_new _, codeAny_builtin F.entry_set_new ?_⟩))
  rw [Around.under_plainId F.plain_set_new _]
  have hs := sub_set_self
  obtain ⟨hp, g, d, tk, os⟩ := s
  unfold Builtin.«set.__new__» Builtin.Frozenset.newClass
  dsimp only
  wp_walk
  refine wpAny_askSetting (wpAny_pure ?_)
  dsimp only
  simp only [newObj]
  exact wpAny_bind (wpAny_alloc (wpAny_pure (wpAny_pure k)))
set_option maxHeartbeats 3200000 in
theorem can_set {l : Addr} {items : Array Value} {ns : List Int} {Q : Value → Shared → Prop} (hh : A.handled = none) (hl : s.heap.IsList l items) (hi : IntsAre items.toList ns) (h4 : ∀ n ∈ ns, 0 ≤ n ∧ n < 4)
    (k : ∀ (h' : Heap) (tk : Nat) (tok : Nat → Tok) (ep : Nat), (∀ b o, s.heap.get? b = some o → h'.get? b = some o) → h'.get? s.heap.objs.size = some (canO (bitsIn ns 0) tok (ledOf w) ep) → bitsIn ns 0 < 16 → Q (.ref s.heap.objs.size) { s with heap := h', toks := tk }) :
    wpAny (model prog w) A (call (.type "set") [.ref l]) Q E s := by
  obtain ⟨c, tl, hmro⟩ := F.called_set.mro
  have hsub := F.called_set.sub
  have hmade := F.called_set.made
  refine wpAny_call (codeAny_of_tree (?_ : wpAny _ _ (callAny (.type "set") _) _ _ _))
  refine wpAny_pure ⟨Code.quiet_builtin _ (by decide +kernel), codeAny_builtin F.entry_type_call ?_⟩
  rw [Around.under_plain (weight_type_call_type "set" [.ref l] []) rfl]
  have g1 := F.called_set.notType
  have g2 := F.called_set.canCreate
  have g3 := F.typeCall_set_1 (.ref l)
  repeat (any_goals (first | assumption | wp_step))
  refine codeAny_mono (can_new (.ref l) (E := E) (R := fun obj s₁ => obj = .ref s.heap.objs.size ∧ s₁ = { s with heap := s.heap.push (canO 0 (fun _ => 0) (ledOf w) 0) }) ⟨rfl, rfl⟩) fun r s₁ hr => ?_
  cases r with
  | error e => exact hr
  | ok fl =>
    cases fl with
    | next => exact False.elim hr
    | brk => exact False.elim hr
    | cont => exact False.elim hr
    | ret obj =>
      obtain ⟨rfl, rfl⟩ := hr
      have oS : (s.heap.push (canO 0 (fun _ => 0) (ledOf w) 0)).get? s.heap.objs.size = some (canO 0 (fun _ => 0) (ledOf w) 0) := Heap.get?_push_size _ rfl
      have hT : Shared.TypeIs { s with heap := s.heap.push (canO 0 (fun _ => 0) (ledOf w) 0) } (.ref s.heap.objs.size) "set" := ⟨_, oS, rfl⟩
      have hli := F.called_set.init.lookup
      have hbi := F.called_set.init.bind (.ref s.heap.objs.size)
      repeat (any_goals (first | assumption | wp_step))
      refine codeAny_mono (codeAny_call_builtin (R := wants (fun r s₂ => r = .none ∧ ∃ h' tk tok ep, s₂ = { s with heap := h', toks := tk } ∧ (∀ b o, s.heap.get? b = some o → h'.get? b = some o) ∧
          h'.get? s.heap.objs.size = some (canO (bitsIn ns 0) tok (ledOf w) ep) ∧ bitsIn ns 0 < 16) E) F.called_set.init.plain F.entry_set_init (check_set_init_1 hT ?_)) fun r₂ s₂ hr₂ => ?_
      · obtain ⟨⟨ocls, odict, odata, oslots⟩, hol, hcl, nl, hdl⟩ := hl
        dsimp only at hcl hdl
        subst hcl hdl
        have hol' := Heap.get?_push_of_some (canO 0 (fun _ => 0) (ledOf w) 0) hol
        have q1 := F.sub_list_set
        have q2 := F.sub_list_frozenset
        have q3 : (Value.type "list" == Value.type "dict") = false := by decide
        have hl1 : (s.heap.push (canO 0 (fun _ => 0) (ledOf w) 0)).IsList l items := ⟨_, hol', rfl, nl, rfl⟩
        unfold Builtin.«set.__init__» noKeywords Builtin.Frozenset.updateFrom
        generalize hPI : pyIter = PI
        wp_walk
        subst hPI
        refine wpAny_pyIter_list hl1 (wpAny_bind (wpAny_runValue ?_))
        have hlS : l < s.heap.objs.size := Heap.lt_size hol
        have hsz : (s.heap.push (canO 0 (fun _ => 0) (ledOf w) 0)).objs.size = s.heap.objs.size + 1 := Heap.size_push _ _
        have hh3 : A.in1.in1.in1.handled = none := by simp [hh]
        have nlI : l ≠ (s.heap.push (canO 0 (fun _ => 0) (ledOf w) 0)).objs.size := by rw [hsz]; exact Nat.ne_of_lt (Nat.lt_succ_of_lt hlS)
        refine can_loop (Walks.list hh3 _ l nlI items) s.heap.objs.size (by rw [hsz]; exact Nat.ne_of_lt (Nat.lt_succ_self _)) (Nat.ne_of_gt hlS) hi h4 (ledOf w) items.size 0 _ 0 (fun _ => 0) 0 (by omega) (Nat.zero_le _) (by decide)
          ⟨⟨_, Heap.get?_push_size _ rfl, rfl, rfl⟩, hl1.push _⟩ (Heap.get?_push_of_some _ oS) fun h' tk tok ep kp ho lt => ?_
        show wpAny _ _ _ _ _ _
        refine wpAny_pure (?_ : wpAny _ _ (ret Value.none) _ _ _)
        refine wpAny_pure ⟨rfl, h', tk, tok, ep, rfl, fun b o e => ?_, ho, lt⟩
        have hb := Heap.lt_size e
        exact kp b o (Nat.ne_of_lt hb) (by rw [hsz]; exact Nat.ne_of_lt (Nat.lt_succ_of_lt hb)) (Heap.get?_push_of_some _ (Heap.get?_push_of_some _ e))
      · cases r₂ with
        | error e => exact hr₂
        | ok fl₂ =>
          cases fl₂ with
          | next => exact False.elim hr₂
          | brk => exact False.elim hr₂
          | cont => exact False.elim hr₂
          | ret r =>
            obtain ⟨rfl, h', tk, tok, ep, rfl, kp, ho, lt⟩ := hr₂
            repeat (any_goals (first | assumption | wp_step))
            exact k h' tk tok ep kp ho lt
end
end Tw

set_option maxRecDepth 100000
set_option linter.all false
namespace Tw
open PySem PySem.Spec PyProof.Rows
/-! ### a set walked -/
theorem ow_si : Manifest.owners.lookup (String.ofList ['r', 'o', 't', 'a', 'r', 'e', 't', 'i', '_', 't', 'e', 's'].reverse) = some Manifest.sig_set_iterator := by kernel_rfl
theorem sl_si_next : Slot "set_iterator" "__next__" "set_iterator.__next__" :=
  .of (owner := "set_iterator") (n := "__next__") (by rw [typeLookup_type, builtinLookup_eq_fast]; kernel_rfl)
    (by decide +kernel) (by decide +kernel) (by decide +kernel) (by first | exact .inl (by decide +kernel) | exact .inr (by decide +kernel)) (by rw [isSubtype_type]; kernel_rfl)
theorem en_si_next : entryFor table "set_iterator.__next__" = some Builtin.«set_iterator.__next__» := entryFor_of_tree (by kernel_rfl)
theorem ar_si_next (a : Value) : argsOk "set_iterator.__next__" ⟨[a], []⟩ := by
  unfold argsOk
  rw [signature?_of (id := "set_iterator.__next__") (n := ['_', '_', 't', 'x', 'e', 'n', '_', '_']) (o := ['r', 'o', 't', 'a', 'r', 'e', 't', 'i', '_', 't', 'e', 's']) (by kernel_rfl) ow_si]
  kernel_rfl
theorem sl_si_iter : Slot "set_iterator" "__iter__" "set_iterator.__iter__" :=
  .of (owner := "set_iterator") (n := "__iter__") (by rw [typeLookup_type, builtinLookup_eq_fast]; kernel_rfl)
    (by decide +kernel) (by decide +kernel) (by decide +kernel) (by first | exact .inl (by decide +kernel) | exact .inr (by decide +kernel)) (by rw [isSubtype_type]; kernel_rfl)
theorem en_si_iter : entryFor table "set_iterator.__iter__" = some Builtin.«dict_keyiterator.__iter__» :=
  entryFor_alias (id' := "dict_keyiterator.__iter__") (by kernel_rfl) rfl
    (by decide +kernel) (by kernel_rfl)
theorem ar_si_iter (a : Value) : argsOk "set_iterator.__iter__" ⟨[a], []⟩ := by
  unfold argsOk
  rw [signature?_of (id := "set_iterator.__iter__") (n := ['_', '_', 'r', 'e', 't', 'i', '_', '_']) (o := ['r', 'o', 't', 'a', 'r', 'e', 't', 'i', '_', 't', 'e', 's']) (by kernel_rfl) ow_si]
  kernel_rfl
theorem en_set_iter : entryFor table "set.__iter__" = some Builtin.«frozenset.__iter__» :=
  entryFor_alias (id' := "frozenset.__iter__") (by kernel_rfl) rfl
    (by decide +kernel) (by kernel_rfl)

/-! the order of a walk -/
theorem erase_perm {α : Type} : ∀ (l : List α) (i : Nat) (h : i < l.length), (l[i] :: l.eraseIdx i).Perm l
  | [], _, h => absurd h (Nat.not_lt_zero _)
  | x :: r, 0, _ => List.Perm.refl _
  | x :: r, i + 1, h => (List.Perm.swap x (r[i]'(Nat.lt_of_succ_lt_succ h)) (r.eraseIdx i)).trans ((erase_perm r i (Nat.lt_of_succ_lt_succ h)).cons x)
theorem pick_go {α : Type} (next : Nat → Nat) : ∀ (f k : Nat) (left : List α) (out : Array α), f = left.length → (pickOrder.go next f k left out).toList.Perm (out.toList ++ left)
  | 0, k, left, out, h => by
    have : left = [] := List.eq_nil_of_length_eq_zero h.symm
    subst this
    simp [pickOrder.go]
  | f + 1, k, left, out, h => by
    have hpos : 0 < left.length := by omega
    have hlt : next k % left.length < left.length := Nat.mod_lt _ hpos
    have e : left[next k % left.length]? = some left[next k % left.length] := List.getElem?_eq_getElem hlt
    unfold pickOrder.go
    rw [e]
    dsimp only
    refine (pick_go next f (k + 1) _ _ (by rw [List.length_eraseIdx_of_lt hlt]; omega)).trans ?_
    rw [Array.toList_push, List.append_assoc]
    refine List.Perm.append_left _ ?_
    exact erase_perm _ _ hlt
theorem pick_perm {α : Type} (next : Nat → Nat) (xs : Array α) : (pickOrder next xs).toList.Perm xs.toList := by
  have := pick_go next xs.size 0 xs.toList #[] (by simp)
  simpa [pickOrder] using this
def seqOf (w : World) (a : Addr) (ep m : Nat) (tok : Nat → Tok) : Array (Int × Value) := if w.params.followText "set-order" then pickOrder (w.params.setOrder a ep) (canEs m tok) else canEs m tok
theorem seq_perm (w : World) (a : Addr) (ep m : Nat) (tok : Nat → Tok) : (seqOf w a ep m tok).toList.Perm (canEs m tok).toList := by
  unfold seqOf
  split
  · exact pick_perm _ _
  · exact List.Perm.refl _
def IsSetIter (h : Heap) (it a : Addr) (slot i n ep : Nat) : Prop := ∃ o, h.get? it = some o ∧ o.cls = .type "set_iterator" ∧ o.data = .fields #[rawInt slot, rawInt i, .ref a, rawInt n, rawInt ep]
theorem can_below_all : ∀ m, m < 16 → ∀ i, i < 4 → i < (canL m).length → SetTable.below (canL m).toArray ((canL m).getD i 0 + 1) = i + 1 := by decide +kernel
theorem can_below0 : ∀ m, m < 16 → SetTable.below (canL m).toArray 0 = 0 := by decide +kernel
theorem can_len (m : Nat) : (canL m).length ≤ 4 := by
  unfold canL
  exact Nat.le_trans (List.length_filter_le _ _) (by simp)
theorem canEs_size (m : Nat) (tok : Nat → Tok) : (canEs m tok).size = (canL m).length := by
  unfold canEs
  rw [List.size_toArray, List.length_map]
theorem canEs_get {m i : Nat} (tok : Nat → Tok) (h : i < (canL m).length) : (canEs m tok)[i]? = some ((((canL m).getD i 0 : Nat) : Int), Value.int (((canL m).getD i 0 : Nat) : Int) (tok ((canL m).getD i 0))) := by
  unfold canEs
  rw [List.getElem?_toArray, List.getElem?_map, List.getD_eq_getElem?_getD, List.getElem?_eq_getElem h]
  rfl
end Tw

set_option maxRecDepth 100000
set_option linter.all false
namespace Tw
open PySem PySem.Spec PyProof.Rows
section
variable {prog : Program} {w : World} {A : Around} {E : Value → Shared → Prop} {s : Shared}
theorem IsSetIter.ty {it a : Addr} {slot i n ep : Nat} (x : IsSetIter s.heap it a slot i n ep) : s.TypeIs (.ref it) "set_iterator" := let ⟨o, h1, h2, _⟩ := x; ⟨o, h1, h2⟩
theorem can_iter {a : Addr} {m ep : Nat} {tok : Nat → Tok} {led : Bool} {Q : Value → Shared → Prop} (hm : m < 16) (ho : s.heap.get? a = some (canO m tok led ep))
    (k : Q (.ref s.heap.objs.size) { s with heap := s.heap.push { cls := .type "set_iterator", data := .fields #[rawInt 0, rawInt 0, .ref a, rawInt ((canL m).length : Nat), rawInt (ep : Nat)] } }) : wpAny (model prog w) A (pyIter (.ref a)) Q E s := by
  have hf := can_fits hm tok led
  have hT : s.TypeIs (.ref a) "set" := ⟨_, ho, rfl⟩
  refine wpAny_pyIter_slot hT PySem.F.slot_set_iter (wpAny_call_entry PySem.F.slot_set_iter hT en_set_iter ?_ (PySem.F.args_set_iter_1 _))
  unfold Builtin.«frozenset.__iter__»
  refine wpAny_bind (m := Builtin.Frozenset.slot0 "__iter__" ⟨[.ref a], []⟩) (wpAny_pure ?_)
  unfold Builtin.Frozenset.sizeOf setEntries
  refine wpAny_bind (wpAny_bind (wpAny_bind (wpAny_setState_of ho rfl hf (wpAny_pure (wpAny_pure ?_)))))
  unfold setDrawn
  refine wpAny_bind (wpAny_bind (wpAny_setState_of ho rfl hf ?_))
  dsimp only
  unfold setsByText
  refine wpAny_bind (wpAny_bind (wpAny_askSetting (wpAny_pure ?_)))
  dsimp only
  refine wpAny_pure ?_
  have hdr : (!(model prog w).w.params.followText "set-order" && (!(canT m led).plain && decide ((canEs m tok).size > 1))) = false := by
    rw [show (canT m led).plain = true from rfl]
    simp
  show wpAny _ _ (if (!(model prog w).w.params.followText "set-order" && (!(canT m led).plain && decide ((canEs m tok).size > 1))) = true then _ else _) _ _ s
  rw [hdr, if_neg (by simp)]
  refine wpAny_bind (m := pure (rawInt 0)) (wpAny_pure ?_)
  refine wpAny_bind (m := setEpoch a) (wpAny_setEpoch_of ho rfl hf ?_)
  refine wpAny_bind (m := newFields "set_iterator" _) (wpAny_newObj_type ?_)
  refine wpAny_pure ⟨_, rfl, "set_iterator", _, ⟨_, Heap.get?_push_size _ rfl, rfl⟩, sl_si_next.lookup, ?_⟩
  rw [canEs_size]
  exact k
theorem can_hint {r : Addr} {Q : Bool → Shared → Prop} (hT : s.TypeIs (.ref r) "set") (h : Q false s) : wpAny (model prog w) A (Builtin.List.listLengthHint (.ref r)) Q E s := by
  unfold Builtin.List.listLengthHint
  refine wpAny_bind (wpAny_specialOf hT PySem.F.slot_set_len.lookup ?_)
  generalize hid : ("set.__len__" : String) = nm
  wp_delta
  rw [show splitId nm = some ("set", "__len__") from by subst hid; decide +kernel]
  subst hid
  refine wpAny_bind (wpAny_isInstance (T := "set") (b := true) hT sub_set_self ?_)
  refine wpAny_ite_split (fun z => absurd z (by decide)) (fun _ => wpAny_ite_split (fun _ => ?_) (fun z => absurd (by decide +kernel) z))
  exact wpAny_bind (wpAny_typeOf hT (wpAny_pure h))
def SetSt (w : World) (I a : Addr) (m ep : Nat) (tok : Nat → Tok) (i : Nat) (h : Heap) : Prop := (∃ slot, IsSetIter h I a slot i (canL m).length ep ∧ (w.params.followText "set-order" = false → SetTable.below (canL m).toArray slot = i)) ∧ h.get? a = some (canO m tok (ledOf w) ep)
theorem can_setNext {a : Addr} {m ep i slot : Nat} {tok : Nat → Tok} {R : Option (Value × Nat) → Shared → Prop} (hm : m < 16) (hi : i < (canL m).length) (hbel : w.params.followText "set-order" = false → SetTable.below (canL m).toArray slot = i) (ho : s.heap.get? a = some (canO m tok (ledOf w) ep))
    (k : ∀ (e : Int × Value) (nx : Nat), (seqOf w a ep m tok)[i]? = some e → (w.params.followText "set-order" = false → SetTable.below (canL m).toArray nx = i + 1) → R (some (e.2, nx)) s) : wpAny (model prog w) A (setNext a slot i ep) R E s := by
  have hf := can_fits hm tok (ledOf w)
  unfold setNext
  refine wpAny_bind (wpAny_setState_of ho rfl hf ?_)
  dsimp only
  unfold setsByText
  refine wpAny_bind (wpAny_bind (wpAny_askSetting (wpAny_pure ?_)))
  dsimp only
  have hw : (model prog w).w = w := rfl
  rw [hw]
  cases hb : w.params.followText "set-order" with
  | true =>
    rw [if_pos rfl, if_neg (by simp)]
    unfold setWalk
    refine wpAny_bind (wpAny_bind (wpAny_setState_of ho rfl hf ?_))
    dsimp only
    unfold setsByText
    refine wpAny_bind (wpAny_bind (wpAny_askSetting (wpAny_pure ?_)))
    dsimp only
    rw [hw, hb, if_pos rfl]
    refine wpAny_bind (wpAny_askSetting (wpAny_pure ?_))
    dsimp only
    have hlen : (pickOrder (w.params.setOrder a ep) (canEs m tok)).size = (canL m).length := by
      rw [← Array.length_toList, (pick_perm _ _).length_eq, Array.length_toList, canEs_size]
    have hi2 : i < (pickOrder (w.params.setOrder a ep) (canEs m tok)).size := by rw [hlen]; exact hi
    have hs : (seqOf w a ep m tok)[i]? = some (pickOrder (w.params.setOrder a ep) (canEs m tok))[i] := by
      unfold seqOf
      rw [hb, if_pos rfl]
      exact Array.getElem?_eq_getElem hi2
    refine wpAny_pure ?_
    rw [hw, Array.getElem?_eq_getElem hi2]
    exact k _ slot hs fun z => by rw [hb] at z; cases z
  | false =>
    have hl : ledOf w = true := by unfold ledOf; rw [hb]; rfl
    rw [if_neg (by simp)]
    rw [hl] at ho ⊢
    refine wpAny_ite_split (fun z => absurd z Bool.false_ne_true) (fun _ => ?_)
    refine wpAny_bind (wpAny_ite_split (fun z => absurd z Bool.false_ne_true) (fun _ => wpAny_pure ?_))
    have hbl : SetTable.below (canT m true).place slot = i := hbel hb
    rw [hbl, canEs_get tok hi]
    have hp : (canT m true).place[i]? = some ((canL m).getD i 0) := by
      show (canL m).toArray[i]? = _
      rw [List.getElem?_toArray, List.getD_eq_getElem?_getD, List.getElem?_eq_getElem hi]
      rfl
    rw [hp]
    refine wpAny_pure (k ((((canL m).getD i 0 : Nat) : Int), Value.int (((canL m).getD i 0 : Nat) : Int) (tok ((canL m).getD i 0))) ((canL m).getD i 0 + 1) ?_ fun _ => can_below_all m hm i (Nat.lt_of_lt_of_le hi (can_len m)) hi)
    unfold seqOf
    rw [hb, if_neg (by simp)]
    exact canEs_get tok hi
theorem can_setNone {a : Addr} {m ep slot : Nat} {tok : Nat → Tok} {R : Option (Value × Nat) → Shared → Prop} (hm : m < 16) (hbel : w.params.followText "set-order" = false → SetTable.below (canL m).toArray slot = (canL m).length) (ho : s.heap.get? a = some (canO m tok (ledOf w) ep))
    (k : R none s) : wpAny (model prog w) A (setNext a slot (canL m).length ep) R E s := by
  have hf := can_fits hm tok (ledOf w)
  unfold setNext
  refine wpAny_bind (wpAny_setState_of ho rfl hf ?_)
  dsimp only
  unfold setsByText
  refine wpAny_bind (wpAny_bind (wpAny_askSetting (wpAny_pure ?_)))
  dsimp only
  have hw : (model prog w).w = w := rfl
  rw [hw]
  cases hb : w.params.followText "set-order" with
  | true =>
    rw [if_pos rfl, if_neg (by simp)]
    unfold setWalk
    refine wpAny_bind (wpAny_bind (wpAny_setState_of ho rfl hf ?_))
    dsimp only
    unfold setsByText
    refine wpAny_bind (wpAny_bind (wpAny_askSetting (wpAny_pure ?_)))
    dsimp only
    rw [hw, hb, if_pos rfl]
    refine wpAny_bind (wpAny_askSetting (wpAny_pure ?_))
    dsimp only
    have hlen : (pickOrder (w.params.setOrder a ep) (canEs m tok)).size = (canL m).length := by
      rw [← Array.length_toList, (pick_perm _ _).length_eq, Array.length_toList, canEs_size]
    refine wpAny_pure ?_
    rw [hw, Array.getElem?_eq_none (by omega)]
    exact k
  | false =>
    have hl : ledOf w = true := by unfold ledOf; rw [hb]; rfl
    rw [if_neg (by simp)]
    rw [hl] at ho ⊢
    refine wpAny_ite_split (fun z => absurd z Bool.false_ne_true) (fun _ => ?_)
    refine wpAny_bind (wpAny_ite_split (fun z => absurd z Bool.false_ne_true) (fun _ => wpAny_pure ?_))
    have hbl : SetTable.below (canT m true).place slot = (canL m).length := hbel hb
    rw [hbl, Array.getElem?_eq_none (by rw [canEs_size]; exact Nat.le_refl _)]
    exact wpAny_pure k
theorem can_next {I a : Addr} {m ep i : Nat} {tok : Nat → Tok} {Q : Option Value → Shared → Prop} (hm : m < 16) (hi : i < (canL m).length) (nI : a ≠ I) (st : SetSt w I a m ep tok i s.heap)
    (k : ∀ e h', (seqOf w a ep m tok)[i]? = some e → SetSt w I a m ep tok (i + 1) h' → (∀ b o, b ≠ I → s.heap.get? b = some o → h'.get? b = some o) → Q (some e.2) { s with heap := h' }) : wpAny (model prog w) A (pyNext (.ref I)) Q E s := by
  obtain ⟨⟨slot, hit, hbel⟩, ho⟩ := st
  obtain ⟨o, hI, hc, hd⟩ := id hit
  have hf := can_fits hm tok (ledOf w)
  unfold pyNext
  refine wpAny_bind (wpAny_attempt (wpAny_callSpecial?_slot (name := Str.ofString "__next__") hit.ty sl_si_next
    (wpAny_call_entry sl_si_next hit.ty en_si_next ?_ (ar_si_next _))))
  unfold Builtin.«set_iterator.__next__»
  refine wpAny_bind (m := slotArgs "__next__" 0 ⟨[.ref I], []⟩) (wpAny_pure ?_)
  refine wpAny_bind (wpAny_fieldsOf hI hd ?_)
  dsimp only [rawInt]
  unfold setEntries
  refine wpAny_bind (wpAny_bind (wpAny_setState_of ho rfl hf (wpAny_pure ?_)))
  rw [if_neg (by rw [canEs_size]; simp)]
  refine wpAny_bind (m := setNext a slot i ep) (can_setNext hm hi hbel ho fun e nx he hb => ?_)
  dsimp only
  refine wpAny_bind (m := setField (.ref I) 0 (rawInt nx)) (wpAny_setField hI hd (by simp) ?_)
  have h1 : (s.heap.update I (Obj.mapFields (·.setIfInBounds 0 (rawInt (nx : Nat))))).get? I = some (Obj.mapFields (·.setIfInBounds 0 (rawInt (nx : Nat))) o) := Heap.get?_update_self _ hI (Obj.isFreed_of_fields (Obj.data_mapFields hd _))
  have d1 := Obj.data_mapFields hd (·.setIfInBounds 0 (rawInt (nx : Nat)))
  refine wpAny_bind (m := setField (.ref I) 1 (rawInt ((i : Int) + 1))) (wpAny_setField h1 d1 (by simp) ?_)
  have h2 := Heap.get?_update_self (Obj.mapFields (·.setIfInBounds 1 (rawInt ((i : Int) + 1)))) h1 (Obj.isFreed_of_fields (Obj.data_mapFields d1 _))
  refine wpAny_pure ⟨_, rfl, wpAny_pure (k e _ he ⟨⟨nx, ⟨_, h2, ?_, ?_⟩, hb⟩, ?_⟩ fun b o' nb e' => ?_)⟩
  · exact (Obj.cls_mapFields ..).trans ((Obj.cls_mapFields ..).trans hc)
  · rw [Obj.data_mapFields d1]
    simp [rawInt]
  · rw [(Heap.SameBut.update _ I _).2 a nI, (Heap.SameBut.update _ I _).2 a nI]
    exact ho
  · rw [(Heap.SameBut.update _ I _).2 b nb, (Heap.SameBut.update _ I _).2 b nb]
    exact e'

theorem can_end {I a : Addr} {m ep : Nat} {tok : Nat → Tok} {Q : Option Value → Shared → Prop} (hh : A.handled = none) (hm : m < 16) (nI : a ≠ I) (st : SetSt w I a m ep tok (canL m).length s.heap)
    (k : ∀ h', (∀ b o, b ≠ I → s.heap.get? b = some o → h'.get? b = some o) → Q none { s with heap := h' }) : wpAny (model prog w) A (pyNext (.ref I)) Q E s := by
  obtain ⟨⟨slot, hit, hbel⟩, ho⟩ := st
  obtain ⟨o, hI, hc, hd⟩ := id hit
  have hf := can_fits hm tok (ledOf w)
  unfold pyNext
  refine wpAny_bind (wpAny_attempt (wpAny_callSpecial?_slot (name := Str.ofString "__next__") hit.ty sl_si_next
    (wpAny_call_entry sl_si_next hit.ty en_si_next ?_ (ar_si_next _))))
  unfold Builtin.«set_iterator.__next__»
  refine wpAny_bind (m := slotArgs "__next__" 0 ⟨[.ref I], []⟩) (wpAny_pure ?_)
  refine wpAny_bind (wpAny_fieldsOf hI hd ?_)
  dsimp only [rawInt]
  unfold setEntries
  refine wpAny_bind (wpAny_bind (wpAny_setState_of ho rfl hf (wpAny_pure ?_)))
  rw [if_neg (by rw [canEs_size]; simp)]
  refine wpAny_bind (m := setNext a slot (canL m).length ep) (can_setNone hm hbel ho ?_)
  dsimp only
  refine wpAny_bind (m := setField (.ref I) 2 .none) (wpAny_setField hI hd (by simp) ?_)
  refine wpAny_bind (m := newExc (.type "StopIteration") []) ?_
  simp only [newExc, newTuple]
  refine wpAny_bind (wpAny_newObj_type ?_ (by size_fits))
  refine wpAny_bind (m := firstArgMember _ _) (wpAny_of_eq (a := Value.none) (by first | rfl | (simp only [firstArgMember]; rfl)) ?_)
  refine wpAny_newObj_type ?_ (by size_fits)
  simp only [raiseNew]
  refine wpAny_bind (wpAny_handled ?_)
  rw [show A.in1.handled = none from hh]
  refine wpAny_bind (wpAny_pure (wpAny_throw ?_))
  refine wpAny_bind (wpAny_isInstance (T := "StopIteration") (b := true) ⟨_, Heap.get?_push_size _ rfl, rfl⟩ isSubtype_stop ?_)
  refine wpAny_pure (k _ fun b o' nb e' => Heap.get?_push_of_some _ (Heap.get?_push_of_some _ ?_))
  rw [(Heap.SameBut.update _ I _).2 b nb]
  exact e'
theorem can_src {a : Addr} {m ep : Nat} {tok : Nat → Tok} (hm : m < 16) : PySem.W.KdlSrc prog w "set" a a (canL m).length (fun i v => ∃ e, (seqOf w a ep m tok)[i]? = some e ∧ v = e.2) (fun h => h.get? a = some (canO m tok (ledOf w) ep)) where
  type := fun s ho => ⟨_, ho, rfl⟩
  there := fun h ho => ⟨Heap.lt_size ho, Heap.lt_size ho⟩
  keep := fun h h' ho kp => kp a (.inl rfl) _ ho
  notList := by decide
  notTuple := by decide
  hint := fun A E s Q ho hq => can_hint ⟨_, ho, rfl⟩ hq
  iter := fun A s hh ho => ⟨_, fun i h => SetSt w s.heap.objs.size a m ep tok i h, (fun E Q hq => can_iter hm ho hq), {
      sub := fun b hb => by simp at hb; simp [hb]
      frame := fun i h h' st kp => by
        obtain ⟨⟨slot, ⟨o, g1, g2⟩, hb⟩, ho'⟩ := st
        exact ⟨⟨slot, ⟨o, kp _ (by simp) o g1, g2⟩, hb⟩, kp a (by simp) _ ho'⟩
      item := fun i s' Q E hi st hQ => can_next hm hi (Nat.ne_of_lt (Heap.lt_size ho)) st fun e h' he st' kp => hQ e.2 h' s'.toks ⟨e, he, rfl⟩ st' fun b o nb e' => kp b o (by simpa using nb) e'
      done := fun s' Q E st hQ => can_end hh hm (Nat.ne_of_lt (Heap.lt_size ho)) st fun h' kp => hQ h' s'.toks fun b o nb e' => kp b o (by simpa using nb) e'
      self := fun i s' Q E st hq => by
        obtain ⟨⟨slot, hit, _⟩, _⟩ := st
        refine wpAny_pyIter_slot hit.ty sl_si_iter (wpAny_call_entry sl_si_iter hit.ty en_si_iter (?_ : wpAny _ _ (ret (.ref s.heap.objs.size)) _ _ s') (ar_si_iter _))
        exact wpAny_pure ⟨_, rfl, "set_iterator", _, hit.ty, sl_si_next.lookup, hq⟩ }, ⟨⟨0, ⟨_, Heap.get?_push_size _ rfl, rfl, rfl⟩, fun _ => can_below0 m hm⟩, Heap.get?_push_of_some _ ho⟩⟩
end
end Tw

set_option maxRecDepth 100000
set_option linter.all false
set_option maxHeartbeats 4000000
namespace L2
open PySem PySem.Spec PyProof.Rows
theorem ObjOk.exi {P : Program} {w : World} {H : Hp} {h : Heap} {a : Addr} {o : HO} (x : ObjOk P w H h a o) : ∃ u, h.get? a = some u := by
  cases o with
  | lst xs => obtain ⟨_, _, _, _, e⟩ := x; exact ⟨_, e⟩
  | tup xs => obtain ⟨_, _, _, _, e, _⟩ := x; exact ⟨_, e⟩
  | dK kvs => obtain ⟨_, _, _, _, _, _, _, e, _⟩ := x; exact ⟨_, e⟩
  | dT kvs => obtain ⟨_, _, _, _, _, _, _, e, _⟩ := x; exact ⟨_, e⟩
  | set S n => obtain ⟨_, _, _, _, e, _⟩ := x; exact ⟨_, e⟩
  | ins C dx fs => obtain ⟨_, _, _, e, _⟩ := x; exact ⟨_, e⟩
  | own y => exact x
  | xd fs => obtain ⟨_, ⟨_, _, _, e, _⟩, _⟩ := x; exact ⟨_, e⟩
  | rng lo hi => obtain ⟨_, _, _, e⟩ := x; exact ⟨_, e⟩
  | frz ob u => obtain ⟨e, _⟩ := x; exact ⟨_, e⟩
  | tbl ps => exact ⟨_, (show h.get? a = some _ from x)⟩
  | met f y => exact ⟨_, (show h.get? a = some _ from x)⟩
  | ext φ => obtain ⟨_, e, _⟩ := x; exact e
/-- a new object, tracked; that no elder one stands there is told by itself -/
theorem Inv.laidK {X : Cx} {pins : List (Addr × Obj)} {σ : St} {H : Hp} {s : Shared} {h' : Heap} {a : Addr} {o : HO} {t' : Nat} (I : Inv X pins σ H s) (k : ∀ b u, s.heap.get? b = some u → h'.get? b = some u) (na : ∀ b u, s.heap.get? b = some u → b ≠ a)
    (new : ObjOk X.prog X.w (upd H a o) h' a o) : H a = none ∧ Inv X pins σ (upd H a o) { s with heap := h', toks := t' } := by
  have hn : H a = none := by
    cases q : H a with
    | none => rfl
    | some u =>
      obtain ⟨v, e⟩ := (I.hok a u q).exi
      exact absurd rfl (na a v e)
  refine ⟨hn, I.un ⟨fun b u q _ _ _ => k b u q, fun b u q _ _ _ => ⟨u.slots, k b u q⟩, fun b u q n _ => by rw [upd_ne (na b u q)]; exact n, fun b u q _ => ⟨u, k b u q⟩, fun b xs q => by rw [upd_ne (ne_of_none q hn)]; exact q,
    fun b u xs q => by rw [upd_ne (ne_of_none q hn)]; exact q, fun b ps q => ⟨#[], by rw [upd_ne (ne_of_none q hn), q]; simp⟩⟩ fun b u e => ?_⟩
  by_cases hb : b = a
  · subst hb
    rw [upd_same] at e
    cases e
    exact new
  · rw [upd_ne hb] at e
    exact (I.hok b u e).stay (fun c v _ q => k c v q) (fun c q => by rw [upd_ne (ne_of_none q hn)]; exact q) fun c xs q => by rw [upd_ne (ne_of_none q hn)]; exact q
theorem Paired.at? {α β : Type} {F : α → β → Prop} : ∀ {l₁ : List α} {l₂ : List β} {j : Nat} {a : α} {b : β}, Paired F l₁ l₂ → l₁[j]? = some a → l₂[j]? = some b → F a b
  | _, _, _, _, _, .nil, h, _ => by simp at h
  | _, _, 0, _, _, .cons h _, e1, e2 => by
    simp at e1 e2
    subst e1 e2
    exact h
  | _, _, j + 1, _, _, .cons _ t, e1, e2 => Paired.at? (j := j) t (by simpa using e1) (by simpa using e2)
theorem ints_by : ∀ {us : List Value} {ns : List Int}, us.length = ns.length → (∀ (j : Nat) u n, us[j]? = some u → ns[j]? = some n → ∃ t, u = Value.int n t) → IntsAre us ns
  | [], [], _, _ => .nil
  | [], _ :: _, h, _ => by simp at h
  | _ :: _, [], h, _ => by simp at h
  | u :: us, n :: ns, h, k => by
    obtain ⟨t, rfl⟩ := k 0 u n rfl rfl
    exact .cons n t (ints_by (by simpa using h) fun j u' n' e1 e2 => k (j + 1) u' n' (by simpa using e1) (by simpa using e2))
/-- sorted(d), d a dict with int keys -/
def rSortedD : List V → Hp → VK → Prop := fun vs H Q => ∃ (d : Addr) (kvs : List (Key × V)) (ns : List Int), vs = [V.ref d] ∧ H d = some (.dK kvs) ∧ kvs.map (·.1) = ns.map Sum.inl ∧
  ∀ (ns' : List Int) (p : Addr), ns'.Perm ns → ns'.Pairwise (· ≤ ·) → H p = none → Q (.ref p) (upd H p (.lst (ns'.map V.int)))
theorem sort_made {X : Cx} {pins : List (Addr × Obj)} {σ : St} {H : Hp} {s : Shared} {Q : VK} {h1 : Heap} {tk : Nat} {acc : List Value} {ns : List Int} (I : Inv X pins σ H s) (hkp : ∀ b o, s.heap.get? b = some o → h1.get? b = some o) (hi : IntsAre acc ns) (hz : ns.length ≤ sizeLine)
    (q : ∀ (ns' : List Int) (p : Addr), ns'.Perm ns → ns'.Pairwise (· ≤ ·) → H p = none → Q (.ref p) (upd H p (.lst (ns'.map V.int)))) :
    wpAny (model X.prog X.w) X.A.in1 (do let l ← newList acc; let _ ← holding [l] (call (.builtin "list.sort") [l] []); ret l) (fun fin s' => ∃ u, fin = .done (.ret u) ∧ EP X pins σ Q u s') X.xe { s with heap := h1, toks := tk } := by
  have hla : acc.length = ns.length := hi.length
  refine wpAny_bind (wpAny_newList ?_ (by rw [hla]; exact hz))
  have hob : (h1.push { cls := .type "list", data := .seq acc.toArray }).get? h1.objs.size = some (PyProof.Rows.seqObj "list" acc.toArray 0) := Heap.get?_push_size _ rfl
  refine wpAny_bind (wpAny_holding ?_)
  refine wpAny_call_entry PyProof.Rows.slot_list_sort ⟨_, hob, rfl⟩ PyProof.Rows.entry_list_sort
    (PyProof.Rows.list_sort_treeAny hob hi (by rw [hla]; exact hz) fun out ns' a1 a2 a3 => ⟨.none, rfl, ?_⟩) (PyProof.Rows.args_list_sort _)
  refine wpAny_pure ⟨_, rfl, ?_⟩
  obtain ⟨ep', he'⟩ := PyProof.Rows.sortedHeap_at (vs := acc) (out := out) hob
  have hlen : (ns'.map V.int).length ≤ sizeLine := by rw [List.length_map, a2.length_eq]; exact hz
  have kp : ∀ b u, s.heap.get? b = some u → (PyProof.Rows.sortedHeap (h1.push { cls := .type "list", data := .seq acc.toArray }) h1.objs.size acc out).get? b = some u := fun b u hu => by
    rw [PyProof.Rows.sortedHeap_old (Nat.ne_of_lt (Heap.lt_size (hkp b u hu))) (Nat.lt_of_lt_of_le (Heap.lt_size (hkp b u hu)) (by rw [Heap.size_push]; exact Nat.le_succ _))]
    exact Heap.get?_push_of_some _ (hkp b u hu)
  obtain ⟨hn, I'⟩ := I.laidK (t' := tk) kp (fun b u hu => Nat.ne_of_lt (Heap.lt_size (hkp b u hu))) (o := .lst (ns'.map V.int)) ⟨hlen, out.toList, ep', vals_of_ints a1, he'⟩
  exact ⟨.ref _, _, I', rfl, q ns' _ a2 a3 hn⟩
theorem cr_sortedD {X : Cx} (hc : X.calm = true) : CallR X (.builtin "sorted") rSortedD := by
  intro pins s σ H vs us Q I r h
  obtain ⟨d, kvs, ns, rfl, hd, hk, q⟩ := h
  obtain ⟨hz, lo, raw, kv, hD⟩ : kvs.length ≤ sizeLine ∧ (d == sysModules) = false ∧ ∃ raw, KV kvs raw ∧ s.heap.DictOf (mixKind X.prog X.w) d raw := I.hok d _ hd
  rw [Vals.ref1 r]
  obtain ⟨ep, hat⟩ := hD.dictAt
  have hl1 : kvs.length = raw.length := Paired.length kv
  have hl2 : kvs.length = ns.length := by
    have z := congrArg List.length hk
    simpa using z
  refine PySem.Calls.call_function_entry kind_sorted plain_sorted entry_sorted (args_sorted1 (.ref d)) ?_
  unfold Builtin.«sorted»
  refine (wpAny_bind (m := checkCount "sorted" 1 1 _) (wpAny_pure ?_))
  refine wpAny_bind (PySem.W.kdu_collect (A := X.A.in1) (PySem.W.kdl_dict (knd := mixKind X.prog X.w) (kvs := raw) (ep := ep) lo) (I.ok.hd hc) hat (by omega) fun h1 tk acc hkp hacc => ?_)
  have hla : acc.toList.length = ns.length := by
    rw [Array.length_toList, hacc.1]
    omega
  have hi : IntsAre acc.toList ns := ints_by hla fun j u n e1 e2 => by
    obtain ⟨k, x, hx, hkk⟩ := hacc.2 j u (by rw [← Array.getElem?_toList]; exact e1)
    have hj : j < kvs.length := by
      have := (List.getElem?_eq_some_iff.mp hx).1
      omega
    have e3 : kvs[j].1 = k := (Paired.at? kv (List.getElem?_eq_getElem hj) hx).1
    have e4 : (kvs.map (·.1))[j]? = some k := by rw [List.getElem?_map, List.getElem?_eq_getElem hj]; exact congrArg some e3
    rw [hk, List.getElem?_map, e2] at e4
    have e5 : Sum.inl n = k := Option.some.inj e4
    subst e5
    rcases keyIs_shape (show keyIs (Sum.inl n) u = true from hkk) with ⟨i, t, z1, z2⟩ | ⟨x, t, z1, _⟩
    · cases z1
      exact ⟨t, z2⟩
    · cases z1
  exact sort_made I hkp hi (by omega) q
/-! ### sets of the numbers 0 to 3 -/
def SetC (w : World) (a : Addr) (m : Nat) : HO := .ext fun h => ∃ tok ep, h.get? a = some (Tw.canO m tok (Tw.ledOf w) ep)
def rSet (K : PySem.W.Frag) (w : World) : List V → Hp → VK → Prop := fun vs H Q => ∃ (a : Addr) (ns : List Int), vs = [V.ref a] ∧ SqL K H a (ns.map V.int) ∧ (∀ n ∈ ns, 0 ≤ n ∧ n < 4) ∧ (Tw.bitsIn ns 0 < 16 → ∀ p, H p = none → Q (.ref p) (upd H p (SetC w p (Tw.bitsIn ns 0))))
theorem call_set {X : Cx} (hc : X.calm = true) : CallR X (.type "set") (rSet X.K X.w) := by
  intro pins s σ H vs us Q I r h
  obtain ⟨a, ns, rfl, hs, h4, q⟩ := h
  obtain ⟨its, rv, hl, _⟩ := I.list hs
  rw [Vals.ref1 r]
  refine Tw.can_set (I.ok.hd hc) hl.isList (by simpa using rv.ints) h4 fun h' tk tok ep kp ho lt => ?_
  have hf : H s.heap.objs.size = none := I.hok.fresh (Nat.le_refl _)
  refine ⟨.ref s.heap.objs.size, upd H s.heap.objs.size (SetC X.w s.heap.objs.size (Tw.bitsIn ns 0)), I.laid (t' := tk) kp (Nat.le_refl _) ⟨⟨tok, ep, ho⟩, ⟨_, ho⟩, fun h1 h2 ⟨tok, ep, e⟩ k => ⟨tok, ep, k _ e⟩⟩, rfl, q lt _ hf⟩
def rSortedC (w : World) : List V → Hp → VK → Prop := fun vs H Q => ∃ (p : Addr) (m : Nat), vs = [V.ref p] ∧ H p = some (SetC w p m) ∧ m < 16 ∧ ∀ (ns' : List Int) (q : Addr), ns'.Perm ((Tw.canL m).map fun (i : Nat) => (i : Int)) → ns'.Pairwise (· ≤ ·) → H q = none → Q (.ref q) (upd H q (.lst (ns'.map V.int)))
theorem cr_sortedC {X : Cx} (hc : X.calm = true) : CallR X (.builtin "sorted") (rSortedC X.w) := by
  intro pins s σ H vs us Q I r h
  obtain ⟨p, m, rfl, hp, hm, q⟩ := h
  obtain ⟨⟨tok, ep, ho⟩, _⟩ := I.hok p _ hp
  rw [Vals.ref1 r]
  refine PySem.Calls.call_function_entry kind_sorted plain_sorted entry_sorted (args_sorted1 (.ref p)) ?_
  unfold Builtin.«sorted»
  refine (wpAny_bind (m := checkCount "sorted" 1 1 _) (wpAny_pure ?_))
  have h4 := Tw.can_len m
  have h5 : (4 : Nat) ≤ sizeLine := by decide
  refine wpAny_bind (PySem.W.kdu_collect (A := X.A.in1) (Tw.can_src (tok := tok) hm) (I.ok.hd hc) ho (by omega) fun h1 tk acc hkp hacc => ?_)
  have sp := Tw.seq_perm X.w p ep m tok
  have hmem : ∀ e ∈ (Tw.seqOf X.w p ep m tok).toList, ∃ t, e.2 = Value.int e.1 t := fun e he => by
    have := sp.mem_iff.mp he
    unfold Tw.canEs at this
    obtain ⟨i, _, rfl⟩ := List.mem_map.mp this
    exact ⟨_, rfl⟩
  have hsl : (Tw.seqOf X.w p ep m tok).toList.length = (Tw.canL m).length := by rw [sp.length_eq, Array.length_toList, Tw.canEs_size]
  have hi : IntsAre acc.toList ((Tw.seqOf X.w p ep m tok).toList.map (·.1)) := ints_by (by rw [List.length_map, hsl, Array.length_toList, hacc.1]) fun j u n e1 e2 => by
    obtain ⟨e, he, rfl⟩ := hacc.2 j u (by rw [← Array.getElem?_toList]; exact e1)
    rw [List.getElem?_map, Array.getElem?_toList, he] at e2
    cases e2
    obtain ⟨t, z⟩ := hmem e (by rw [← Array.getElem?_toList] at he; exact List.mem_of_getElem? he)
    exact ⟨t, z⟩
  have hpm : ((Tw.seqOf X.w p ep m tok).toList.map (·.1)).Perm ((Tw.canL m).map fun (i : Nat) => (i : Int)) := by
    refine (sp.map _).trans ?_
    unfold Tw.canEs
    rw [List.map_map]
    exact List.Perm.refl _
  exact sort_made I hkp hi (by rw [List.length_map, hsl]; omega) fun ns' z h6 h7 h8 => q ns' z (h6.trans hpm) h7 h8
/-- a pair's two names -/
theorem pg_two {X : Cx} {i j : Nat} {x y : Str} {px py pos : Pos} {k : Nat} (K : PySem.W.Frag) (hc : X.calm = true) (hN : X.N.Nodup) (hi : X.N[i]? = some x) (hj : X.N[j]? = some y) (hx : X.env.scope.names.lookup x = some .local) (hy : X.env.scope.names.lookup y = some .local) (hK : X.K = K := by rfl)
    (h1 : (assignEach [.Name x px, .Name y py] X.env).map (·.2) = assign (.Name x px) X.env :: (assignEach [.Name y py] X.env).map (·.2) := by rfl) (h2 : (assignEach [.Name y py] X.env).map (·.2) = assign (.Name y py) X.env :: (assignEach [] X.env).map (·.2) := by rfl)
    (hn : (assignEach [.Name x px, .Name y py] X.env).length = 2 := by rfl) (hst : (assignEach [.Name x px, .Name y py] X.env).findIdx? (·.1) = none := by rfl) : PG X (.Tuple [.Name x px, .Name y py] k pos) (gTup K 2 (gCons (gName i) (gCons (gName j) gNil))) := by
  subst hK
  exact pg_tup hc (pgs_cons (pg_name hN hi (Or.inl hx) (.inr hx)) (pgs_cons (pg_name hN hj (Or.inl hy) (.inr hy)) pgs_nil h2) h1) hn hst
end L2

set_option maxRecDepth 100000
set_option linter.all false
namespace Tw
open PySem L2
def top (i : Nat) : Stmt := PySem.Challenge.pw_talkwatch_s01_check.main.body.getD i (.Pass ⟨0, 0, 0, 0⟩)
abbrev s_Talk_init : Stmt := inClass (top 21) 0
abbrev s_Reader_init : Stmt := inClass (top 22) 0
abbrev s_Reader_at_end : Stmt := inClass (top 22) 1
abbrev s_Reader_take : Stmt := inClass (top 22) 2
abbrev s_Reader_take_term : Stmt := inClass (top 22) 3
abbrev s_heads_of : Stmt := top 23
abbrev s_unknowns_of : Stmt := top 24
abbrev s_take_whole_terms : Stmt := top 25
abbrev s_take_part : Stmt := top 26
abbrev s_take_parts : Stmt := top 27
abbrev s_read_talk : Stmt := top 28
abbrev s_answer : Stmt := top 35
abbrev s_check : Stmt := top 36
end Tw

set_option maxRecDepth 100000
set_option linter.all false
set_option maxHeartbeats 4000000
namespace Tw
open PySem L2
theorem pe_gi {X : Cx} {x : Str} {i : Int} {t : Tok} {pos : Pos} (hm : X.mg x = some (.int i t)) (hg : Gl X x := by rfl) (hd : (x == ("__debug__" : Str)) = false := by decide) : PE X (.Name x pos) (tC (.int i)) := pe_glob hg hm ⟨t, rfl⟩ hd
theorem pe_gr {X : Cx} {x : Str} {a : Addr} {pos : Pos} (hm : X.mg x = some (.ref a)) (hg : Gl X x := by rfl) (hd : (x == ("__debug__" : Str)) = false := by decide) : PE X (.Name x pos) (tC (.ref a)) := pe_glob hg hm rfl hd
/-! ### data -/
def bV (b : List Nat) : List V := b.map fun (n : Nat) => V.int (n : Int)
theorem bV_length (b : List Nat) : (bV b).length = b.length := by simp [bV]
theorem bV_get {b : List Nat} {i c : Nat} (h : b[i]? = some c) : (bV b)[i]? = some (V.int (c : Int)) := by simp [bV, h]
theorem bV_at {b : List Nat} {i c : Nat} (h : b[i]? = some c) : atI (bV b) (i : Int) = some (V.int (c : Int)) := atI_nat (bV_get h)
theorem np : ¬ (("numbers" : Str) = "place") := by decide +kernel
def rdF (l : Addr) (i : Int) : List (Str × V) := putF "place" (.int i) (putF "numbers" (.ref l) [])
theorem rdF_eq (l : Addr) (i : Int) : rdF l i = ([("numbers", V.ref l), ("place", V.int i)] : List (Str × V)) := by
  show (if ("numbers" : Str) = "place" then [(("numbers" : Str), V.int i)] else (("numbers" : Str), V.ref l) :: putF "place" (V.int i) []) = ([("numbers", V.ref l), ("place", V.int i)] : List (Str × V))
  rw [if_neg np]
  all_goals rfl
theorem rdF_num (l : Addr) (i : Int) : (rdF l i).lookup ("numbers" : Str) = some (.ref l) := by
  unfold rdF
  rw [lookup_putF, if_neg np, lookup_putF, if_pos rfl]
theorem rdF_place (l : Addr) (i : Int) : (rdF l i).lookup ("place" : Str) = some (.int i) := by
  unfold rdF
  rw [lookup_putF, if_pos rfl]
theorem rdF_no (l : Addr) (i : Int) {m : Str} (h1 : ¬ m = "place") (h2 : ¬ m = "numbers") : (rdF l i).lookup m = none := by
  unfold rdF
  rw [lookup_putF, if_neg h1, lookup_putF, if_neg h2]
  all_goals rfl
theorem rdF_put (l : Addr) (i j : Int) : putF "place" (.int j) (rdF l i) = rdF l j := by
  rw [rdF_eq, rdF_eq]
  show (if ("numbers" : Str) = "place" then _ else (("numbers" : Str), V.ref l) :: (if ("place" : Str) = "place" then [(("place" : Str), V.int j)] else _)) = ([("numbers", V.ref l), ("place", V.int j)] : List (Str × V))
  rw [if_neg np, if_pos rfl]
def RdAt (CR : Addr) (H : Hp) (p l : Addr) (i : Nat) : Prop := ∃ dx, H p = some (.ins CR dx (rdF l (i : Int)))
/-- all but one thing is as it was -/
def But (p : Addr) (H H' : Hp) : Prop := ∀ b o, H b = some o → b ≠ p → H' b = some o
theorem But.refl (p : Addr) (H : Hp) : But p H H := fun _ _ e _ => e
theorem But.trans {p : Addr} {H H1 H2 : Hp} (a : But p H H1) (b : But p H1 H2) : But p H H2 := fun c o e n => b c o (a c o e n) n
theorem But.same {p : Addr} {H H1 H2 : Hp} (a : But p H H1) (b : Same H1 H2) : But p H H2 := fun c o e n => b c o (a c o e n)
theorem But.ofSame {p : Addr} {H H1 : Hp} (a : Same H H1) : But p H H1 := fun c o e _ => a c o e
theorem But.seq {K : PySem.W.Frag} {p C dx : Addr} {fs : List (Str × V)} {H H' : Hp} {a : Addr} {xs : List V} (e : But p H H') (hp : H p = some (.ins C dx fs)) (h : SqL K H a xs) : SqL K H' a xs := by
  rcases h with (h | ⟨o, h⟩) | h
  · exact .inl (.inl (e _ _ h (ne_of h hp (by intro z; cases z))))
  · exact .inl (.inr ⟨o, e _ _ h (ne_of h hp (by intro z; cases z))⟩)
  · exact .inr h
theorem But.rseq {K : PySem.W.Frag} {CR p l : Addr} {i : Nat} {H H' : Hp} {a : Addr} {xs : List V} (e : But p H H') (hp : RdAt CR H p l i) (h : SqL K H a xs) : SqL K H' a xs := e.seq hp.choose_spec h
/-! ### what the walk knows of the text -/
structure Adr where
  (CT CR XL XN IT XO XM XW XT CK CM CE CS CP : Addr)
abbrev tabV : List V := [.int 0, .int 2, .int 2, .int 2, .int 1, .int 1, .int 2, .int 0]
structure Txt (K : PySem.W.Frag) (mg : Str → Option Value) (a : Adr) : Prop where
  clR : Cls K a.CR
  nNum : NoAttr K a.CR "numbers"
  nPl : NoAttr K a.CR "place"
  mgR : mg "Reader" = some (.ref a.CR)
  clT : Cls K a.CT
  nKn : NoAttr K a.CT "known"
  nPa : NoAttr K a.CT "parts"
  nSe : NoAttr K a.CT "secrets"
  mgT : mg "Talk" = some (.ref a.CT)
  mgL : mg "TalkTooLong" = some (.ref a.XL)
  mgN : mg "NoTalk" = some (.ref a.XN)
  exL : PySem.W.excIn K a.XL bmExc "Exception.__new__" = true
  exN : PySem.W.excIn K a.XN bmExc "Exception.__new__" = true
  tab : mg "INNER_TERMS" = some (.ref a.IT)
  sq : ∀ H : Hp, SqT K H a.IT tabV
  kNAME : ∃ t, mg "NAME" = some (.int 0 t)
  kUNKNOWN : ∃ t, mg "UNKNOWN" = some (.int 7 t)
  kGETS : ∃ t, mg "GETS" = some (.int 0 t)
  kENDS : ∃ t, mg "ENDS" = some (.int 3 t)
  kLN : ∃ t, mg "LAST_NAME" = some (.int 15 t)
  kLU : ∃ t, mg "LAST_UNKNOWN" = some (.int 3 t)
  kMB : ∃ t, mg "MOST_BYTES" = some (.int 512 t)
  kMK : ∃ t, mg "MOST_KNOWN" = some (.int 8 t)
  kMP : ∃ t, mg "MOST_PARTS" = some (.int 4 t)
  kME : ∃ t, mg "MOST_EVENTS" = some (.int 6 t)
  kMS : ∃ t, mg "MOST_SECRETS" = some (.int 4 t)
  kNO : ∃ t, mg "NOTHING" = some (.int (-1) t)
  len : mg "len" = none
  range : mg "range" = none
  sorted : mg "sorted" = none
  tuple : mg "tuple" = none
  set : mg "set" = none
/-! ### the promises -/
def spRInit (CR : Addr) : Sp := fun vs H Q _ => ∃ (p l dx : Addr), vs = [.ref p, .ref l] ∧ H p = some (.ins CR dx []) ∧ ∀ H' : Hp, RdAt CR H' p l 0 → But p H H' → Q .non H'
def spAtEnd (K : PySem.W.Frag) (CR : Addr) : Sp := fun vs H Q _ => ∃ (p l : Addr) (i : Nat) (xs : List V), vs = [.ref p] ∧ RdAt CR H p l i ∧ SqL K H l xs ∧ Q (.bl (decide (V.int (i : Int) = V.int (xs.length : Int)))) H
def spTake (K : PySem.W.Frag) (CR XN : Addr) : Sp := fun vs H Q E => ∃ (p l : Addr) (i m : Nat) (b : List Nat), vs = [.ref p, .int (m : Int)] ∧ RdAt CR H p l i ∧ SqL K H l (bV b) ∧ i ≤ b.length ∧
  (b[i]? = none → E (.ref XN) none H) ∧ ∀ c, b[i]? = some c → (m < c → E (.ref XN) none H) ∧ (c ≤ m → ∀ H' : Hp, RdAt CR H' p l (i + 1) → But p H H' → Q (.int (c : Int)) H')
def spTerm (K : PySem.W.Frag) (CR XN : Addr) : Sp := fun vs H Q E => ∃ (p l : Addr) (i : Nat) (b : List Nat), vs = [.ref p] ∧ RdAt CR H p l i ∧ SqL K H l (bV b) ∧ i ≤ b.length ∧
  (Sa91.termOf (b.drop i) = none → ∀ H', E (.ref XN) none H') ∧
  ∀ t r, Sa91.termOf (b.drop i) = some (t, r) → ∀ (a : Addr) (H' : Hp), RdAt CR H' p l (i + (enc t).length) → But p H H' → H a = none → H' a = some (.tup (bV (enc t))) → Q (.ref a) H'
section
variable {P : Program} {w : World} {K : PySem.W.Frag} {mg : Str → Option Value} {base : Heap} {ad : Adr}
theorem scRI : FnScope ["self", "numbers"] ["self", "numbers"] (defScope s_Reader_init) := ⟨rfl, rfl, rfl, by decide +kernel, rfl, by decide +kernel, by decide +kernel⟩
theorem ok_rinit {f : Addr} {fd : FuncData} (F : Fun K "__init__" "Reader.__init__" s_Reader_init f fd) (T : Txt K mg ad) : FnOk P w K mg base CX0 1 f fd ["self", "numbers"] (spRInit ad.CR) := by
  refine F.ok scRI (fun vs H Q E h => ?_) (fun cdv A outer s H vs Q E hr h => ?_)
  · obtain ⟨p, l, dx, rfl, _⟩ := h
    rfl
  · obtain ⟨p, l, dx, rfl, hp, k⟩ := h
    refine ⟨_, pss_cons (ps_fld (pv 0) (pv 1) rfl) (pss_one (ps_fld (pv 0) pe_int rfl)), ?_⟩
    refine ⟨_, rfl, _, rfl, p, ad.CR, dx, [], rfl, hp, T.clR, T.nNum, (by show 0 < 1000; decide), _, rfl, p, ad.CR, dx, _, rfl, upd_same, T.clR, T.nPl, (by show 1 < 1000; decide), ?_⟩
    exact k _ ⟨dx, upd_same⟩ fun b o e hb => by rw [upd_ne hb, upd_ne hb]; exact e
theorem scAE : FnScope ["self"] ["self"] (defScope s_Reader_at_end) := ⟨rfl, rfl, rfl, by decide +kernel, rfl, by decide +kernel, by decide +kernel⟩
theorem ok_atend {f : Addr} {fd : FuncData} (F : Fun K "at_end" "Reader.at_end" s_Reader_at_end f fd) (T : Txt K mg ad) : FnOk P w K mg base CX0 1 f fd ["self"] (spAtEnd K ad.CR) := by
  refine F.ok scAE (fun vs H Q E h => ?_) (fun cdv A outer s H vs Q E hr h => ?_)
  · obtain ⟨p, l, i, xs, rfl, _⟩ := h
    rfl
  · obtain ⟨p, l, i, xs, rfl, ⟨dx, hp⟩, hS, k⟩ := h
    refine ⟨_, pss_one (ps_ret (pe_cmpR op_eq (pe_fld (pv 0) rfl) (pe_callB call_len_seq (by rfl) T.len PySem.boot_len (pa_cons (pe_fld (pv 0) rfl) pa_nil)) (nomark _))), ?_⟩
    exact ⟨_, rfl, p, ad.CR, dx, _, _, rfl, hp, T.clR, T.nPl, rdF_place _ _, _, rfl, p, ad.CR, dx, _, _, rfl, hp, T.clR, T.nNum, rdF_num _ _, l, xs, rfl, .inl hS, rfl, k⟩
theorem scTk : FnScope ["self", "most"] ["self", "most"] (defScope s_Reader_take) := ⟨rfl, rfl, rfl, by decide +kernel, rfl, by decide +kernel, by decide +kernel⟩
theorem ok_take {f fA : Addr} {fd fdA : FuncData} (F : Fun K "take" "Reader.take" s_Reader_take f fd) (T : Txt K mg ad) (FA : Fun K "at_end" "Reader.at_end" s_Reader_at_end fA fdA) (bA : Binds K fdA ["self"] []) (mA : Meth K ad.CR "at_end" fA) :
    FnOk P w K mg base (CXe P w) 2 f fd ["self", "most"] (spTake K ad.CR ad.XN) := by
  have GA : FnOk P w K mg base CX0 1 fA fdA ["self"] (spAtEnd K ad.CR) := ok_atend FA T
  refine F.okE scTk (fun vs H Q E h => ?_) (fun cdv A outer s H vs Q E hr h => ?_)
  · obtain ⟨p, l, i, m, b, rfl, _⟩ := h
    rfl
  · obtain ⟨p, l, i, m, b, rfl, R, hS, hi, k0, k1⟩ := h
    obtain ⟨dx, hp⟩ := id R
    refine ⟨_, pss_cons (ps_if (pw_or (pt_truth (pe_meth0 (pv 0) T.clR mA GA hr bA .nil pass0) (fun _ => rfl)) (pw_or1 (pt_cmpR op_gt (pe_ix ix_list (pe_fld (pv 0) rfl) (pe_fld (pv 0) rfl) (fun _ _ => rfl)) (pv 1) (nomark _)))).pt
        (pss_one (ps_raise (by rfl) T.mgN T.exN)) pss_nil)
      (pss_cons (ps_fld (pv 0) (pe_op op_add (pe_fld (pv 0) rfl) pe_int) rfl)
      (pss_one (ps_ret (pe_ix ix_list (pe_fld (pv 0) rfl) (pe_op op_sub (pe_fld (pv 0) rfl) pe_int) (fun _ _ => rfl))))), ?_⟩
    refine ⟨_, rfl, p, dx, _, rfl, hp, rdF_no _ _ (by decide +kernel) (by decide +kernel), p, l, i, bV b, rfl, R, hS, _, rfl, ?_⟩
    cases hc : b[i]? with
    | none =>
      have e : decide (V.int (i : Int) = V.int ((bV b).length : Int)) = true := decide_eq_true (by
        have := List.getElem?_eq_none_iff.mp hc
        rw [bV_length]
        congr 2
        omega)
      rw [e]
      exact iteT (iteT (k0 hc))
    | some c =>
      have hlt : i < b.length := (List.getElem?_eq_some_iff.mp hc).1
      have e : decide (V.int (i : Int) = V.int ((bV b).length : Int)) = false := decide_eq_false fun z => by
        have z' := V.int.inj z
        rw [bV_length] at z'
        omega
      rw [e]
      refine iteF ?_
      refine ⟨_, rfl, p, ad.CR, dx, _, _, rfl, hp, T.clR, T.nNum, rdF_num _ _, _, rfl, p, ad.CR, dx, _, _, rfl, hp, T.clR, T.nPl, rdF_place _ _, l, _, _, _, rfl, rfl, hS, bV_at hc, _, rfl, _, _, rfl, rfl, _, rfl, ?_⟩
      by_cases hm : m < c
      · rw [decide_eq_true (by omega : (m : Int) < (c : Int))]
        exact iteT ((k1 c hc).1 hm)
      · rw [decide_eq_false (by omega : ¬ (m : Int) < (c : Int))]
        refine iteF ?_
        have e1 : putF "place" (V.int ((i : Int) + 1)) (rdF l (i : Int)) = rdF l ((i + 1 : Nat) : Int) := by
          rw [rdF_put]
          congr 2
        have h2 : upd H p (.ins ad.CR dx (putF "place" (V.int ((i : Int) + 1)) (rdF l (i : Int)))) p = some (.ins ad.CR dx (rdF l ((i + 1 : Nat) : Int))) := by rw [upd_same, e1]
        have bt : But p H (upd H p (.ins ad.CR dx (putF "place" (V.int ((i : Int) + 1)) (rdF l (i : Int))))) := fun b o e hb => by rw [upd_ne hb]; exact e
        have e2 : ((i + 1 : Nat) : Int) - 1 = (i : Int) := by omega
        refine ⟨_, rfl, p, ad.CR, dx, _, _, rfl, hp, T.clR, T.nPl, rdF_place _ _, _, _, rfl, rfl, _, rfl, p, ad.CR, dx, _, rfl, hp, T.clR, T.nPl, (by rw [rdF_eq]; show 2 < 1000; decide), ?_⟩
        refine ⟨_, rfl, p, ad.CR, dx, _, _, rfl, h2, T.clR, T.nNum, rdF_num _ _, _, rfl, p, ad.CR, dx, _, _, rfl, h2, T.clR, T.nPl, rdF_place _ _, _, _, rfl, rfl, l, _, _, _, rfl, rfl, bt.seq hp hS, (by rw [e2]; exact bV_at hc), ?_⟩
        exact (k1 c hc).2 (by omega) _ ⟨dx, h2⟩ bt
end
end Tw

set_option maxRecDepth 100000
set_option linter.all false
set_option maxHeartbeats 4000000
namespace Tw
open PySem L2
theorem drop_term {b r : List Nat} {i : Nat} {t : Sa91.Term} (h : b.drop i = enc t ++ r) : b.drop (i + (enc t).length) = r := by
  rw [← List.drop_drop, h, List.drop_left]
theorem term_le {b r : List Nat} {i : Nat} {t : Sa91.Term} (hi : i ≤ b.length) (h : b.drop i = enc t ++ r) : i + (enc t).length ≤ b.length := by
  have e := congrArg List.length h
  rw [List.length_drop, List.length_append] at e
  omega
theorem drop_at {b : List Nat} {j c : Nat} (h : b[j]? = some c) : b.drop j = c :: b.drop (j + 1) := by
  obtain ⟨hj, e⟩ := List.getElem?_eq_some_iff.mp h
  rw [List.drop_eq_getElem_cons hj, e]
theorem drop_nil {b : List Nat} {j : Nat} (h : b[j]? = none) : b.drop j = [] := List.drop_eq_nil_of_le (List.getElem?_eq_none_iff.mp h)
theorem tab_at {c : Nat} (h : c ≤ 7) : atI tabV (c : Int) = some (V.int ((inner c : Nat) : Int)) := by
  refine atI_nat ?_
  match c, h with
  | 0, _ => rfl
  | 1, _ => rfl
  | 2, _ => rfl
  | 3, _ => rfl
  | 4, _ => rfl
  | 5, _ => rfl
  | 6, _ => rfl
  | 7, _ => rfl
  | n + 8, h => exact absurd h (by omega)
theorem decV {a b : Nat} : decide (V.int (a : Int) = V.int (b : Int)) = decide (a = b) := by
  by_cases h : a = b
  · subst h
    rw [decide_eq_true rfl, decide_eq_true rfl]
  · rw [decide_eq_false h, decide_eq_false fun z => h (by have := V.int.inj z; omega)]
theorem cut_bV {b : List Nat} {i j : Nat} (h1 : i ≤ j) (h2 : j ≤ b.length) : cutV (bV b) (some (i : Int)) (some (j : Int)) = bV ((b.drop i).take (j - i)) := by
  unfold cutV
  rw [HT.sIx_nat, HT.sIx_nat, bV_length, Nat.min_eq_left (Nat.le_trans h1 h2), Nat.min_eq_left h2]
  unfold bV
  rw [← List.map_drop, ← List.map_take]
section
variable {P : Program} {w : World} {K : PySem.W.Frag} {mg : Str → Option Value} {base : Heap} {ad : Adr}
theorem scTm : FnScope ["self", "start", "due", "first"] ["self"] (defScope s_Reader_take_term) := ⟨rfl, rfl, rfl, by decide +kernel, rfl, by decide +kernel, by decide +kernel⟩
theorem ok_term {f fT : Addr} {fd fdT : FuncData} (F : Fun K "take_term" "Reader.take_term" s_Reader_take_term f fd) (T : Txt K mg ad) (GT : FnOk P w K mg base (CXe P w) 2 fT fdT ["self", "most"] (spTake K ad.CR ad.XN)) (bT : Binds K fdT ["self", "most"] []) (mT : Meth K ad.CR "take" fT) :
    FnOk P w K mg base (CXe P w) 3 f fd ["self"] (spTerm K ad.CR ad.XN) := by
  obtain ⟨tu, hU⟩ := T.kUNKNOWN
  obtain ⟨tn, hN⟩ := T.kNAME
  obtain ⟨t1, hLN⟩ := T.kLN
  obtain ⟨t2, hLU⟩ := T.kLU
  refine F.okE scTm (fun vs H Q E h => ?_) (fun cdv A outer s H vs Q E hr h => ?_)
  · obtain ⟨p, l, i, b, rfl, _⟩ := h
    rfl
  · obtain ⟨p, l, i, b, rfl, R, hS, hi, kn, ks⟩ := h
    obtain ⟨dx, hp⟩ := id R
    refine ⟨_, pss_cons (ps_set (i := 1) scTm.nd rfl (Or.inl rfl) (pe_fld (pv 0) rfl))
      (pss_cons (ps_set (i := 2) scTm.nd rfl (Or.inl rfl) pe_int)
      (pss_cons (ps_while powE (pt_cmpR op_gt (pv 2) pe_int (nomark _))
        (pss_cons (ps_set (i := 3) scTm.nd rfl (Or.inl rfl) (pe_meth (pv 0) T.clR mT GT hr bT .nil passE (pa_cons (pe_gi hU) pa_nil)))
        (pss_cons (ps_if (pt_cmpR op_eq (pv 3) (pe_gi hN) (nomark _))
            (pss_one (ps_expr (pe_meth (pv 0) T.clR mT GT hr bT .nil passE (pa_cons (pe_gi hLN) pa_nil))))
            (pss_one (ps_if (pt_cmpR op_eq (pv 3) (pe_gi hU) (nomark _))
              (pss_one (ps_expr (pe_meth (pv 0) T.clR mT GT hr bT .nil passE (pa_cons (pe_gi hLU) pa_nil)))) pss_nil)))
        (pss_one (ps_set (i := 2) scTm.nd rfl (Or.inl rfl) (pe_op op_add (pe_op op_sub (pv 2) pe_int) (pe_ix ix_tup (pe_gr T.tab) (pv 3) (fun _ _ => rfl))))))))
      (pss_one (ps_ret (pe_callTy call_tuple_of (by rfl) T.tuple PyProof.Rows.boot_tuple (pa_cons (pe_slice sl_list (pe_fld (pv 0) rfl) (po_some (pv 1)) (po_some (pe_fld (pv 0) rfl))) pa_nil)))))), ?_⟩
    refine ⟨_, rfl, p, ad.CR, dx, _, _, rfl, hp, T.clR, T.nPl, rdF_place _ _, ?_⟩
    refine ⟨fun m σ H2 => ∃ (d j : Nat) (v : Option V), m = b.length - j ∧ σ = [some (.ref p), some (.int (i : Int)), some (.int (d : Int)), v] ∧ RdAt ad.CR H2 p l j ∧ But p H H2 ∧ i ≤ j ∧ j ≤ b.length ∧ skip d (b.drop j) = skip 1 (b.drop i),
      ⟨_, 1, i, none, rfl, rfl, R, But.refl p H, Nat.le_refl _, hi, rfl⟩, ?_⟩
    rintro m σ H2 ⟨d, j, v, rfl, rfl, R2, B2, hij, hj, hsk⟩
    obtain ⟨dx2, hp2⟩ := id R2
    have hS2 : SqL K H2 l (bV b) := B2.seq hp hS
    refine ⟨_, rfl, _, _, rfl, rfl, _, rfl, ?_⟩
    cases d with
    | zero =>
      rw [decide_eq_false (by omega : ¬ (0 : Int) < ((0 : Nat) : Int))]
      refine iteF ?_
      rw [skip_zero] at hsk
      obtain ⟨t, e1, wf, e2⟩ := skip_one hsk.symm
      have ej : j = i + (enc t).length := by
        have z := congrArg List.length e1
        rw [List.length_drop, List.length_append, List.length_drop] at z
        omega
      refine ⟨_, rfl, p, ad.CR, dx2, _, _, rfl, hp2, T.clR, T.nNum, rdF_num _ _, _, rfl, _, rfl, _, rfl, p, ad.CR, dx2, _, _, rfl, hp2, T.clR, T.nPl, rdF_place _ _, _, rfl, l, _, rfl, hS2, fun q hq => ?_⟩
      refine ⟨q, _, rfl, .inl ⟨SqL.of upd_same, fun a ha => ?_⟩⟩
      have hq2 : p ≠ q := ne_of_none hp2 hq
      have haq : a ≠ q := fun z => by rw [z, upd_same] at ha; cases ha
      have ha2 : H2 a = none := by rw [upd_ne haq] at ha; exact ha
      have hpa : p ≠ a := ne_of_none hp2 ha2
      have ec : cutV (bV b) (some (i : Int)) (some (j : Int)) = bV (enc t) := by
        rw [cut_bV hij hj, e1, ej]
        congr 1
        rw [show i + (enc t).length - i = (enc t).length by omega, List.take_left]
      refine ks t (b.drop j) e2 a _ ⟨dx2, ?_⟩ (fun c o e n => ?_) ?_ ?_
      · rw [upd_ne hpa, upd_ne hq2, ← ej]
        exact hp2
      · have e3 := B2 c o e n
        rw [upd_ne (ne_of_none e3 ha2), upd_ne (ne_of_none e3 hq)]
        exact e3
      · cases z : H a with
        | none => rfl
        | some o =>
          have := B2 a o z (Ne.symm hpa)
          rw [ha2] at this
          cases this
      · rw [upd_same, ec]
    | succ d =>
      rw [decide_eq_true (by omega : (0 : Int) < ((d + 1 : Nat) : Int))]
      refine iteT ?_
      have bad : skip (d + 1) (b.drop j) = none → ∀ H', E (.ref ad.XN) none H' := fun z => kn (skip_none (by rw [← hsk]; exact z))
      refine ⟨fun σ' H' => ∃ m', m' < b.length - j ∧ ∃ (d j : Nat) (v : Option V), m' = b.length - j ∧ σ' = [some (.ref p), some (.int (i : Int)), some (.int (d : Int)), v] ∧ RdAt ad.CR H' p l j ∧ But p H H' ∧ i ≤ j ∧ j ≤ b.length ∧ skip d (b.drop j) = skip 1 (b.drop i), fun _ _ z => z, ?_⟩
      refine ⟨_, rfl, p, dx2, _, rfl, hp2, rdF_no _ _ (by decide +kernel) (by decide +kernel), p, l, j, 7, b, rfl, R2, hS2, hj, fun z => bad (by rw [drop_nil z, skip_nil]) _, fun c hc => ⟨fun z => bad ?_ _, fun hc7 H3 R3 B3 => ?_⟩⟩
      · rw [drop_at hc, skip_cons, if_neg (by omega), if_neg (by omega), if_neg (by omega)]
      obtain ⟨dx3, hp3⟩ := id R3
      have B3' := B2.trans B3
      have hS3 : SqL K H3 l (bV b) := B3'.seq hp hS
      have hlt : j < b.length := (List.getElem?_eq_some_iff.mp hc).1
      have edrop := drop_at hc
      rw [edrop] at bad hsk
      -- the turn's last row
      have fin : ∀ (H4 : Hp) (j4 : Nat), RdAt ad.CR H4 p l j4 → But p H H4 → j < j4 → j4 ≤ b.length → skip (d + inner c) (b.drop j4) = skip 1 (b.drop i) →
          (tOp (rI0 fun i j => V.int (i + j)) (tOp (rI0 fun i j => V.int (i - j)) (tVar 2) (tC (.int 1))) (tOp (rIxT K) (tC (.ref ad.IT)) (tVar 3))) [some (V.ref p), some (V.int (i : Int)), some (V.int ((d + 1 : Nat) : Int)), some (V.int (c : Int))] H4
            (fun v H' => (fun σ' H' => ∃ m', m' < b.length - j ∧ ∃ (d j : Nat) (v : Option V), m' = b.length - j ∧ σ' = [some (.ref p), some (.int (i : Int)), some (.int (d : Int)), v] ∧ RdAt ad.CR H' p l j ∧ But p H H' ∧ i ≤ j ∧ j ≤ b.length ∧ skip d (b.drop j) = skip 1 (b.drop i)) (([some (V.ref p), some (V.int (i : Int)), some (V.int ((d + 1 : Nat) : Int)), some (V.int (c : Int))] : St).set 2 (some v)) H') := fun H4 j4 R4 B4 h1 h2 h3 => by
        refine ⟨_, rfl, _, _, rfl, rfl, _, rfl, ad.IT, _, _, _, rfl, rfl, T.sq _, tab_at hc7, _, _, rfl, rfl, ?_⟩
        have ev : ((d + 1 : Nat) : Int) - 1 + ((inner c : Nat) : Int) = ((d + inner c : Nat) : Int) := by omega
        exact ⟨b.length - j4, by omega, d + inner c, j4, some (V.int (c : Int)), rfl, by
          show [some (V.ref p), some (V.int (i : Int)), some (V.int (((d + 1 : Nat) : Int) - 1 + ((inner c : Nat) : Int))), some (V.int (c : Int))] = _
          rw [ev], R4, B4, by omega, h2, h3⟩
      refine ⟨_, rfl, rfl, _, rfl, ?_⟩
      rw [show decide (V.int (c : Int) = V.int 0) = decide (c = 0) from decV (b := 0)]
      by_cases h0 : c = 0
      · rw [decide_eq_true h0]
        refine iteT ?_
        rw [skip_cons, if_pos h0] at hsk bad
        refine ⟨_, rfl, p, dx3, _, rfl, hp3, rdF_no _ _ (by decide +kernel) (by decide +kernel), p, l, j + 1, 15, b, rfl, R3, hS3, hlt, fun z => bad (by rw [drop_nil z]) _, fun a ha => ⟨fun z => bad ?_ _, fun ha15 H4 R4 B4 => ?_⟩⟩
        · rw [drop_at ha]
          show (if a ≤ 15 then _ else none) = none
          rw [if_neg (by omega)]
        · rw [drop_at ha] at hsk
          have hsk : (if a ≤ 15 then skip d (b.drop (j + 1 + 1)) else none) = skip 1 (b.drop i) := hsk
          rw [if_pos ha15] at hsk
          exact fin H4 (j + 1 + 1) R4 (B3'.trans B4) (by omega) (by have := (List.getElem?_eq_some_iff.mp ha).1; omega) (by rw [h0]; exact hsk)
      · rw [decide_eq_false h0]
        refine iteF ?_
        rw [skip_cons, if_neg h0] at hsk bad
        refine ⟨_, rfl, rfl, _, rfl, ?_⟩
        rw [show decide (V.int (c : Int) = V.int 7) = decide (c = 7) from decV (b := 7)]
        by_cases h7 : c = 7
        · rw [decide_eq_true h7]
          refine iteT ?_
          rw [if_pos h7] at hsk bad
          refine ⟨_, rfl, p, dx3, _, rfl, hp3, rdF_no _ _ (by decide +kernel) (by decide +kernel), p, l, j + 1, 3, b, rfl, R3, hS3, hlt, fun z => bad (by rw [drop_nil z]) _, fun a ha => ⟨fun z => bad ?_ _, fun ha3 H4 R4 B4 => ?_⟩⟩
          · rw [drop_at ha]
            show (if a ≤ 3 then _ else none) = none
            rw [if_neg (by omega)]
          · rw [drop_at ha] at hsk
            have hsk : (if a ≤ 3 then skip d (b.drop (j + 1 + 1)) else none) = skip 1 (b.drop i) := hsk
            rw [if_pos ha3] at hsk
            exact fin H4 (j + 1 + 1) R4 (B3'.trans B4) (by omega) (by have := (List.getElem?_eq_some_iff.mp ha).1; omega) (by rw [h7]; exact hsk)
        · rw [decide_eq_false h7]
          refine iteF ?_
          rw [if_neg h7, if_pos hc7] at hsk
          exact fin H3 (j + 1) R3 B3' (by omega) hlt hsk
end
end Tw

set_option maxRecDepth 100000
set_option linter.all false
set_option maxHeartbeats 4000000
namespace Tw
open PySem L2
/-! ### a term's heads -/
def hd1 : Sa91.Term → Int × Int
  | .name a => (0, (a : Int))
  | .unknown v => (7, (v : Int))
  | t => ((head t : Int), -1)
def hds : Sa91.Term → List (Int × Int)
  | .name a => [(0, (a : Int))]
  | .pair x y => (1, -1) :: (hds x ++ hds y)
  | .locked x y => (2, -1) :: (hds x ++ hds y)
  | .forOne x y => (3, -1) :: (hds x ++ hds y)
  | .print x => (4, -1) :: hds x
  | .own x => (5, -1) :: hds x
  | .sealed x y => (6, -1) :: (hds x ++ hds y)
  | .unknown v => [(7, (v : Int))]
theorem hds_kids (t : Sa91.Term) : hds t = hd1 t :: (kids t).flatMap hds := by cases t <;> simp [hds, hd1, kids, head]
theorem hd1_leaf {t : Sa91.Term} (h : inner (head t) = 0) : ∃ c, lead t = [head t, c] ∧ hd1 t = ((head t : Int), (c : Int)) := by
  cases t with
  | name a => exact ⟨a, rfl, rfl⟩
  | unknown v => exact ⟨v, rfl, rfl⟩
  | _ => simp [head, inner] at h
theorem hd1_node {t : Sa91.Term} (h : inner (head t) ≠ 0) : lead t = [head t] ∧ hd1 t = ((head t : Int), -1) := by
  cases t with
  | name a => simp [head, inner] at h
  | unknown v => simp [head, inner] at h
  | _ => exact ⟨rfl, rfl⟩
def PairT (H : Hp) (a : Addr) (p : Int × Int) : Prop := H a = some (.tup [.int p.1, .int p.2])
def PairsAt (H : Hp) (la : Addr) (ps : List (Int × Int)) : Prop := ∃ as : List Addr, H la = some (.lst (as.map V.ref)) ∧ Paired (PairT H) as ps
def spHeads : Sp := fun vs H Q _ => ∃ (a : Addr) (t : Sa91.Term), vs = [.ref a] ∧ H a = some (.tup (bV (enc t))) ∧ (enc t).length ≤ 1000 ∧ ∀ (q : Addr) (H' : Hp), Same H H' → H q = none → PairsAt H' q (hds t) → Q (.ref q) H'
theorem flat_cons_get {t : Sa91.Term} {ts : List Sa91.Term} {l : List Nat} {j : Nat} (h : l.drop j = (t :: ts).flatMap enc) : l[j]? = some (head t) ∧ l.drop (j + (lead t).length) = (kids t ++ ts).flatMap enc ∧ j + (lead t).length ≤ l.length := by
  have e : l.drop j = lead t ++ (kids t ++ ts).flatMap enc := by
    rw [h, List.flatMap_cons, enc_lead, List.flatMap_append, List.append_assoc]
  refine ⟨?_, by rw [← List.drop_drop, e, List.drop_left], ?_⟩
  · have z : (l.drop j)[0]? = some (head t) := by
      rw [e, List.getElem?_append_left (by have := lead_len t; split at this <;> omega), lead_head]
    rw [List.getElem?_drop] at z
    simpa using z
  · have z := congrArg List.length e
    rw [List.length_drop, List.length_append] at z
    have h2 : 0 < (lead t).length := by have := lead_len t; split at this <;> omega
    omega
section
variable {P : Program} {w : World} {K : PySem.W.Frag} {mg : Str → Option Value} {base : Heap} {ad : Adr}
theorem scHd : FnScope ["term", "heads", "place"] ["term"] (defScope s_heads_of) := ⟨rfl, rfl, rfl, by decide +kernel, rfl, by decide +kernel, by decide +kernel⟩
theorem ok_heads {f : Addr} {fd : FuncData} (F : Fun K "heads_of" "heads_of" s_heads_of f fd) (T : Txt K mg ad) : FnOk P w K mg base CX0 1 f fd ["term"] spHeads := by
  obtain ⟨tn, hNO⟩ := T.kNO
  refine F.ok scHd (fun vs H Q E h => ?_) (fun cdv A outer s H vs Q E hr h => ?_)
  · obtain ⟨a, t, rfl, _⟩ := h
    rfl
  · obtain ⟨a, t, rfl, ha, hlen, k⟩ := h
    refine ⟨_, pss_cons (ps_set (i := 1) scHd.nd rfl (Or.inl rfl) (pe_lst pa_nil))
      (pss_cons (ps_set (i := 2) scHd.nd rfl (Or.inl rfl) pe_int)
      (pss_cons (ps_while PassesOwn.never (pt_cmpR op_lt (pv 2) (pe_callB call_len_seq (by rfl) T.len PySem.boot_len (pa_cons (pv 0) pa_nil)) (nomark _))
        (pss_one (ps_if (pt_cmpR op_eq (pe_ix ix_tup (pe_gr T.tab) (pe_ix ix_tup (pv 0) (pv 2) (fun _ _ => rfl)) (fun _ _ => rfl)) pe_int (nomark _))
          (pss_cons (ps_expr (pe_bm PySem.F.plainAttrs_list PySem.F.slot_list_append PySem.F.type_list_append mt_append (pv 1) (pa_cons (pe_tup (pa_cons (pe_ix ix_tup (pv 0) (pv 2) (fun _ _ => rfl)) (pa_cons (pe_ix ix_tup (pv 0) (pe_op op_add (pv 2) pe_int) (fun _ _ => rfl)) pa_nil))) pa_nil)))
            (pss_one (ps_set (i := 2) scHd.nd rfl (Or.inl rfl) (pe_op op_add (pv 2) pe_int))))
          (pss_cons (ps_expr (pe_bm PySem.F.plainAttrs_list PySem.F.slot_list_append PySem.F.type_list_append mt_append (pv 1) (pa_cons (pe_tup (pa_cons (pe_ix ix_tup (pv 0) (pv 2) (fun _ _ => rfl)) (pa_cons (pe_gi hNO) pa_nil))) pa_nil)))
            (pss_one (ps_set (i := 2) scHd.nd rfl (Or.inl rfl) (pe_op op_add (pv 2) pe_int)))))))
      (pss_one (ps_ret (pv 1))))), ?_⟩
    refine ⟨Nat.zero_le _, fun l hl => ?_⟩
    refine ⟨fun m σ H2 => ∃ (j : Nat) (ts : List Sa91.Term) (dn : List (Int × Int)) (as : List Addr), m = (enc t).length - j ∧ σ = [some (.ref a), some (.ref l), some (.int (j : Int))] ∧ H2 l = some (.lst (as.map V.ref)) ∧ Paired (PairT H2) as dn ∧ Same H H2 ∧ as.length ≤ j ∧
        j ≤ (enc t).length ∧ (enc t).drop j = ts.flatMap enc ∧ hds t = dn ++ ts.flatMap hds,
      ⟨_, 0, [t], [], [], rfl, rfl, upd_same, .nil, (fun c o e => by rw [upd_ne (ne_of_none e hl)]; exact e), Nat.le_refl _, Nat.zero_le _, by simp, by simp⟩, ?_⟩
    rintro m σ H2 ⟨j, ts, dn, as, rfl, rfl, hl2, pr, s2, hal, hj, edr, eh⟩
    have ha2 := s2 a _ ha
    refine ⟨_, rfl, _, rfl, a, _, rfl, .inr (SqT.of ha2), _, _, rfl, rfl, _, rfl, ?_⟩
    rw [bV_length]
    cases ts with
    | nil =>
      have ej : j = (enc t).length := by
        have z := congrArg List.length edr
        rw [List.length_drop] at z
        have z : (enc t).length - j = 0 := z
        omega
      rw [decide_eq_false (by omega : ¬ (j : Int) < ((enc t).length : Int))]
      refine iteF ?_
      have eh' : hds t = dn := by simpa using eh
      exact ⟨_, rfl, k l H2 s2 hl ⟨as, hl2, by rw [eh']; exact pr⟩⟩
    | cons t1 ts =>
      obtain ⟨g1, g2, g3⟩ := flat_cons_get edr
      have hll : (lead t1).length = if inner (head t1) = 0 then 2 else 1 := lead_len t1
      have hlt : j < (enc t).length := (List.getElem?_eq_some_iff.mp g1).1
      rw [decide_eq_true (by omega : (j : Int) < ((enc t).length : Int))]
      refine iteT ?_
      have fin : ∀ (p : Int × Int) (n : Nat) (b : Addr), p = hd1 t1 → n = (lead t1).length → H2 b = none →
          (∃ m', m' < (enc t).length - j ∧ ∃ (j' : Nat) (ts : List Sa91.Term) (dn : List (Int × Int)) (as' : List Addr), m' = (enc t).length - j' ∧ [some (V.ref a), some (V.ref l), some (V.int ((j : Int) + (n : Int)))] = [some (.ref a), some (.ref l), some (.int (j' : Int))] ∧
            (upd (upd H2 b (.tup [.int p.1, .int p.2])) l (.lst (as.map V.ref ++ [V.ref b]))) l = some (.lst (as'.map V.ref)) ∧ Paired (PairT (upd (upd H2 b (.tup [.int p.1, .int p.2])) l (.lst (as.map V.ref ++ [V.ref b])))) as' dn ∧ Same H (upd (upd H2 b (.tup [.int p.1, .int p.2])) l (.lst (as.map V.ref ++ [V.ref b]))) ∧ as'.length ≤ j' ∧
            j' ≤ (enc t).length ∧ (enc t).drop j' = ts.flatMap enc ∧ hds t = dn ++ ts.flatMap hds) := fun p n b ep en hb => by
        have nbl : b ≠ l := fun z => by rw [z, hl2] at hb; cases hb
        have hn : 1 ≤ n := by rw [en, hll]; split <;> omega
        have keepT : ∀ c q, PairT H2 c q → PairT (upd (upd H2 b (.tup [.int p.1, .int p.2])) l (.lst (as.map V.ref ++ [V.ref b]))) c q := fun c q e => by
          have e : H2 c = some (.tup [.int q.1, .int q.2]) := e
          show upd (upd H2 b _) l _ c = _
          rw [upd_ne (ne_of e hl2 (by intro z; cases z)), upd_ne (ne_of_none e hb)]
          exact e
        refine ⟨(enc t).length - (j + n), by omega, j + n, kids t1 ++ ts, dn ++ [p], as ++ [b], rfl, rfl, ?_, Paired.snoc (Paired.mono keepT pr) ?_, fun c o e => ?_, by rw [List.length_append, List.length_singleton]; omega, by rw [en]; exact g3, by rw [en]; exact g2, ?_⟩
        · rw [upd_same, List.map_append]
          rfl
        · show upd (upd H2 b _) l _ b = _
          rw [upd_ne nbl, upd_same]
        · have e2 := s2 c o e
          rw [upd_ne (ne_of_none e hl), upd_ne (ne_of_none e2 hb)]
          exact e2
        · rw [eh, List.flatMap_cons, hds_kids t1, ep, List.flatMap_append]
          simp
      refine ⟨fun σ' H' => ∃ m', m' < (enc t).length - j ∧ ∃ (j : Nat) (ts : List Sa91.Term) (dn : List (Int × Int)) (as : List Addr), m' = (enc t).length - j ∧ σ' = [some (.ref a), some (.ref l), some (.int (j : Int))] ∧ H' l = some (.lst (as.map V.ref)) ∧ Paired (PairT H') as dn ∧ Same H H' ∧ as.length ≤ j ∧
        j ≤ (enc t).length ∧ (enc t).drop j = ts.flatMap enc ∧ hds t = dn ++ ts.flatMap hds, fun _ _ z => z, ?_⟩
      refine ⟨_, rfl, _, rfl, a, _, _, _, rfl, rfl, SqT.of ha2, bV_at g1, ad.IT, _, _, _, rfl, rfl, T.sq _, tab_at (head_le t1), rfl, _, rfl, ?_⟩
      rw [show decide (V.int ((inner (head t1) : Nat) : Int) = V.int 0) = decide (inner (head t1) = 0) from decV (b := 0)]
      by_cases hz : inner (head t1) = 0
      · rw [decide_eq_true hz]
        refine iteT ?_
        obtain ⟨c, el, eh1⟩ := hd1_leaf hz
        have g4 : (enc t)[j + 1]? = some c := by
          have z : ((enc t).drop j)[1]? = some c := by
            rw [edr, List.flatMap_cons, enc_lead, el]
            rfl
          rw [List.getElem?_drop] at z
          exact z
        refine ⟨_, rfl, .inl ⟨rfl, _, SqL.of hl2⟩, _, rfl, _, rfl, a, _, _, _, rfl, rfl, SqT.of ha2, bV_at g1, _, rfl, _, rfl, _, _, rfl, rfl, a, _, _, _, rfl, rfl, SqT.of ha2, at_of (j := j + 1) (by omega) (bV_get g4), (by show 2 ≤ sizeLine; decide), fun b hb => ?_⟩
        have hl3 : upd H2 b (.tup [.int (head t1 : Int), .int (c : Int)]) l = some (.lst (as.map V.ref)) := by rw [upd_ne (ne_of_none hl2 hb)]; exact hl2
        refine ⟨l, _, _, rfl, rfl, hl3, small1000 (by rw [List.length_map]; omega), ?_⟩
        refine ⟨_, rfl, _, _, rfl, rfl, ?_⟩
        have := fin ((head t1 : Int), (c : Int)) 2 b eh1.symm (by rw [el]; rfl) hb
        exact this
      · rw [decide_eq_false hz]
        refine iteF ?_
        obtain ⟨el, eh1⟩ := hd1_node hz
        refine ⟨_, rfl, .inl ⟨rfl, _, SqL.of hl2⟩, _, rfl, _, rfl, a, _, _, _, rfl, rfl, SqT.of ha2, bV_at g1, (by show 2 ≤ sizeLine; decide), fun b hb => ?_⟩
        have hl3 : upd H2 b (.tup [.int (head t1 : Int), .int (-1)]) l = some (.lst (as.map V.ref)) := by rw [upd_ne (ne_of_none hl2 hb)]; exact hl2
        refine ⟨l, _, _, rfl, rfl, hl3, small1000 (by rw [List.length_map]; omega), ?_⟩
        refine ⟨_, rfl, _, _, rfl, rfl, ?_⟩
        have := fin ((head t1 : Int), -1) 1 b eh1.symm (by rw [el]; rfl) hb
        exact this
end
end Tw

set_option maxRecDepth 100000
set_option linter.all false
set_option maxHeartbeats 4000000
namespace Tw
open PySem L2
/-- a list of numbers that rise -/
def UnkOf (t : Sa91.Term) (us : List Nat) : Prop := us.Pairwise (· < ·) ∧ ∀ v, v ∈ us ↔ v ∈ Sa91.unknowns t
def spUnk : Sp := fun vs H Q _ => ∃ (a : Addr) (t : Sa91.Term), vs = [.ref a] ∧ H a = some (.tup (bV (enc t))) ∧ Wf t ∧ (enc t).length ≤ 1000 ∧ ∀ (us : List Nat) (q : Addr) (H' : Hp), UnkOf t us → Same H H' → H q = none → H' q = some (.lst (bV us)) → Q (.ref q) H'
theorem bit_one (n v : Nat) : (1 <<< n).testBit v = decide (n = v) := by
  rw [Nat.testBit_shiftLeft]
  by_cases h : n = v
  · subst h
    simp
  · rw [decide_eq_false h]
    by_cases h2 : v ≥ n
    · rw [decide_eq_true h2]
      have : v - n ≠ 0 := by omega
      have h3 : Nat.testBit 1 (v - n) = false := by
        rw [show (1 : Nat) = 2 ^ 0 from rfl, Nat.testBit_two_pow]
        exact decide_eq_false (Ne.symm this)
      rw [h3]
      rfl
    · rw [decide_eq_false h2]
      rfl
theorem bitsIn_bit : ∀ (ns : List Int) (m v : Nat), (∀ n ∈ ns, 0 ≤ n ∧ n < 4) → (bitsIn ns m).testBit v = (m.testBit v || decide ((v : Int) ∈ ns))
  | [], m, v, _ => by simp [bitsIn]
  | n :: r, m, v, h => by
    have h0 := h n List.mem_cons_self
    unfold bitsIn
    rw [bitsIn_bit r _ v (fun x hx => h x (List.mem_cons_of_mem _ hx)), Nat.testBit_or, bit_one]
    have e : decide (n.toNat = v) = decide ((v : Int) = n) := by
      by_cases q : (v : Int) = n
      · rw [decide_eq_true q, decide_eq_true (by omega)]
      · rw [decide_eq_false q, decide_eq_false (by omega)]
    rw [e]
    by_cases q1 : (v : Int) = n <;> by_cases q2 : (v : Int) ∈ r <;> simp [q1, q2]
theorem canL_mem {m v : Nat} : v ∈ canL m ↔ v < 4 ∧ m.testBit v = true := by
  unfold canL
  rw [List.mem_filter, List.mem_range]
theorem canL_nd (m : Nat) : (canL m).Nodup := by
  unfold canL
  exact (List.nodup_range).sublist (List.filter_sublist)
def inK (ks : List Nat) : List Key := ks.map fun (n : Nat) => (Sum.inl (n : Int) : Key)
theorem inK_mem {ks : List Nat} {v : Nat} : (Sum.inl (v : Int) : Key) ∈ inK ks ↔ v ∈ ks := by
  unfold inK
  rw [List.mem_map]
  constructor
  · rintro ⟨n, hn, e⟩
    have z : (n : Int) = (v : Int) := Sum.inl.inj e
    have : n = v := by omega
    rw [← this]
    exact hn
  · intro h
    exact ⟨v, h, rfl⟩
/-- one key more, or as it was -/
theorem put_keys {kvs : List (Key × V)} {ks : List Nat} {v : Nat} (x : V) (e : kvs.map (·.1) = inK ks) (nd : ks.Nodup) :
    ∃ ks', (putK kvs (Sum.inl (v : Int) : Key) x).map (·.1) = inK ks' ∧ ks'.Nodup ∧ (∀ u, u ∈ ks' ↔ u ∈ ks ∨ u = v) ∧ ks'.length ≤ ks.length + 1 := by
  by_cases h : v ∈ ks
  · refine ⟨ks, ?_, nd, fun u => ⟨Or.inl, fun z => z.elim (fun q => q) fun q => by rw [q]; exact h⟩, Nat.le_succ _⟩
    cases hv : valV kvs (Sum.inl (v : Int) : Key) with
    | none =>
      exact absurd (by rw [e]; exact inK_mem.mpr h) (valV_not hv)
    | some y =>
      have ha : (kvs.any fun kv => decide (kv.1 = (Sum.inl (v : Int) : Key))) = true := by rw [valV_any, hv]; rfl
      unfold putK
      rw [if_pos ha, List.map_map, ← e]
      refine List.map_congr_left fun kv _ => ?_
      show (if kv.1 = _ then (kv.1, x) else kv).1 = kv.1
      split <;> rfl
  · have hv : valV kvs (Sum.inl (v : Int) : Key) = none := by
      cases q : valV kvs (Sum.inl (v : Int) : Key) with
      | none => rfl
      | some y =>
        have := valV_in q
        rw [e] at this
        exact absurd (inK_mem.mp this) h
    refine ⟨ks ++ [v], ?_, ?_, fun u => by simp, by simp⟩
    · rw [putK_new x hv, List.map_append, e]
      unfold inK
      rw [List.map_append]
      rfl
    · exact nd_snoc nd h
def isUnk (p : Int × Int) : Bool := decide (p.1 = 7)
theorem hds_unk : ∀ t : Sa91.Term, ((hds t).filter isUnk).map (·.2) = (Sa91.unknowns t).map fun (n : Nat) => (n : Int)
  | .name a => rfl
  | .unknown v => rfl
  | .pair x y => by
    show (((1, -1) :: (hds x ++ hds y)).filter isUnk).map (·.2) = (Sa91.unknowns x ++ Sa91.unknowns y).map _
    rw [List.filter_cons_of_neg (by decide), List.filter_append, List.map_append, hds_unk x, hds_unk y, List.map_append]
  | .locked x y => by
    show (((2, -1) :: (hds x ++ hds y)).filter isUnk).map (·.2) = (Sa91.unknowns x ++ Sa91.unknowns y).map _
    rw [List.filter_cons_of_neg (by decide), List.filter_append, List.map_append, hds_unk x, hds_unk y, List.map_append]
  | .forOne x y => by
    show (((3, -1) :: (hds x ++ hds y)).filter isUnk).map (·.2) = (Sa91.unknowns x ++ Sa91.unknowns y).map _
    rw [List.filter_cons_of_neg (by decide), List.filter_append, List.map_append, hds_unk x, hds_unk y, List.map_append]
  | .sealed x y => by
    show (((6, -1) :: (hds x ++ hds y)).filter isUnk).map (·.2) = (Sa91.unknowns x ++ Sa91.unknowns y).map _
    rw [List.filter_cons_of_neg (by decide), List.filter_append, List.map_append, hds_unk x, hds_unk y, List.map_append]
  | .print x => by
    show (((4, -1) :: hds x).filter isUnk).map (·.2) = (Sa91.unknowns x).map _
    rw [List.filter_cons_of_neg (by decide), hds_unk x]
  | .own x => by
    show (((5, -1) :: hds x).filter isUnk).map (·.2) = (Sa91.unknowns x).map _
    rw [List.filter_cons_of_neg (by decide), hds_unk x]
theorem hds_len : ∀ t : Sa91.Term, (hds t).length ≤ (enc t).length
  | .name _ => by simp [hds, enc]
  | .unknown _ => by simp [hds, enc]
  | .pair x y => by have := hds_len x; have := hds_len y; simp [hds, enc]; omega
  | .locked x y => by have := hds_len x; have := hds_len y; simp [hds, enc]; omega
  | .forOne x y => by have := hds_len x; have := hds_len y; simp [hds, enc]; omega
  | .sealed x y => by have := hds_len x; have := hds_len y; simp [hds, enc]; omega
  | .print x => by have := hds_len x; simp [hds, enc]; omega
  | .own x => by have := hds_len x; simp [hds, enc]; omega
theorem ints_nat {ns' : List Int} {ks : List Nat} (pm : ns'.Perm (ks.map fun (n : Nat) => (n : Int))) : ns'.map V.int = bV (ns'.map Int.toNat) ∧ (ns'.map Int.toNat).Perm ks := by
  have nn : ∀ z ∈ ns', ∃ n ∈ ks, z = ((n : Nat) : Int) := fun z hz => by
    obtain ⟨n, hn, e⟩ := List.mem_map.mp (pm.mem_iff.mp hz)
    exact ⟨n, hn, e.symm⟩
  have en : (ns'.map Int.toNat).map (fun (n : Nat) => (n : Int)) = ns' := by
    rw [List.map_map]
    conv => rhs; rw [← List.map_id ns']
    refine List.map_congr_left fun z hz => ?_
    obtain ⟨n, _, e⟩ := nn z hz
    subst e
    rfl
  refine ⟨?_, ?_⟩
  · unfold bV
    conv => lhs; rw [← en]
    rw [List.map_map]
    rfl
  · have z := pm.map Int.toNat
    rw [List.map_map] at z
    have z2 : ks.map (Int.toNat ∘ fun (n : Nat) => (n : Int)) = ks := by
      conv => rhs; rw [← List.map_id ks]
      rfl
    rw [z2] at z
    exact z
theorem rising {ns' : List Int} {ks : List Nat} (pm : ns'.Perm (ks.map fun (n : Nat) => (n : Int))) (pw : ns'.Pairwise (· ≤ ·)) (nd : ks.Nodup) : (ns'.map Int.toNat).Pairwise (· < ·) := by
  have nd' : (ns'.map Int.toNat).Nodup := (ints_nat pm).2.nodup_iff.mpr nd
  have pw' : (ns'.map Int.toNat).Pairwise (· ≤ ·) := by
    rw [List.pairwise_map]
    exact pw.imp fun h => by omega
  exact (pw'.and nd').imp fun h => by
    have h1 := h.1
    have h2 := h.2
    omega
section
variable {P : Program} {w : World} {K : PySem.W.Frag} {mg : Str → Option Value} {base : Heap} {ad : Adr}
theorem paired_get {α β : Type} {F : α → β → Prop} : ∀ {l₁ : List α} {l₂ : List β} {j : Nat} {a : α}, Paired F l₁ l₂ → l₁[j]? = some a → ∃ b, l₂[j]? = some b ∧ F a b
  | _, _, _, _, .nil, h => by simp at h
  | _, _, 0, _, .cons h _, e => by
    simp at e
    subst e
    exact ⟨_, rfl, h⟩
  | _, _, j + 1, _, .cons _ t, e => by
    obtain ⟨b, h1, h2⟩ := paired_get (j := j) t (by simpa using e)
    exact ⟨b, by simpa using h1, h2⟩
theorem ref_at {as : List Addr} {n : Nat} {y : V} (hy : (as.map V.ref)[n]? = some y) : ∃ a, as[n]? = some a ∧ y = V.ref a := by
  rw [List.getElem?_map] at hy
  cases e : as[n]? with
  | none => rw [e] at hy; cases hy
  | some a => rw [e] at hy; exact ⟨a, rfl, (Option.some.inj hy).symm⟩
theorem scUn : FnScope ["term", "head", "number"] ["term"] (defScope s_unknowns_of) := ⟨rfl, rfl, rfl, by decide +kernel, rfl, by decide +kernel, by decide +kernel⟩
theorem blkUn : BlkOk ["term", "head", "number"] (defScope s_unknowns_of) { kind := .function, names := [(".0", .local), ("head", .local), ("number", .local), ("UNKNOWN", .globalImplicit)], isGenerator := false, isCoroutine := false } [("head", 1), ("number", 2)] :=
  ⟨rfl, by decide +kernel, by decide +kernel, by decide +kernel, by decide +kernel⟩
theorem ok_unk {f fH : Addr} {fd fdH : FuncData} (F : Fun K "unknowns_of" "unknowns_of" s_unknowns_of f fd) (T : Txt K mg ad)
    (GH : FnOk P w K mg base CX0 1 fH fdH ["term"] spHeads) (bH : Binds K fdH ["term"] []) (mgH : mg "heads_of" = some (.ref fH)) (kH : PySem.W.keepIn K (.ref fH) = true) : FnOk P w K mg base CX0 2 f fd ["term"] spUnk := by
  obtain ⟨tu, hU⟩ := T.kUNKNOWN
  refine F.ok scUn (fun vs H Q E h => ?_) (fun cdv A outer s H vs Q E hr h => ?_)
  · obtain ⟨a, t, rfl, _⟩ := h
    rfl
  · obtain ⟨a, t, rfl, ha, wf, hlen, k⟩ := h
    refine ⟨_, pss_one (ps_ret (pe_callB (cr_sortedC rfl) (by rfl) T.sorted PyProof.Rows.boot_sorted (pa_cons (pe_callTy (call_set rfl) (by rfl) T.set PyProof.Rows.boot_set (pa_cons
      (pe_lc (own := [("head", 1), ("number", 2)]) rfl scUn.nd (pi_list (pe_call GH hr (by rfl) mgH kH bH .nil pass0 (pa_cons (pv 0) pa_nil))) blkUn
        (fun _ _ _ _ _ => pg_two (i := 1) (j := 2) K rfl scUn.nd rfl rfl rfl rfl)
        (fun _ _ _ _ _ => pts_one (pt_cmpR op_eq (pv 1) (pe_gi hU) (nomark _))) (fun _ _ _ _ _ => pv 2)) pa_nil)) pa_nil))), ?_⟩
    refine ⟨_, rfl, a, t, rfl, ha, hlen, fun q H1 s1 hq pr1 => ?_⟩
    obtain ⟨as, hl, pr⟩ := pr1
    have hlen2 : as.length = (hds t).length := Paired.length pr
    refine ⟨q, rfl, ⟨_, SqL.of hl⟩, fun D hD => ?_⟩
    refine lc_list (K := K) (a := q) (xs := as.map V.ref) (fun n H2 => H2 D = some (.lst ((((hds t).take n).filter isUnk).map fun p => V.int p.2)) ∧ Same H1 H2) ⟨upd_same, fun c o e => by rw [upd_ne (ne_of_none e hD)]; exact e⟩ (fun n H2 _ ⟨_, s2⟩ => SqL.of (s2 q _ hl)) ?_ ?_
    · rintro n y H2 hy ⟨hD2, s2⟩
      obtain ⟨b, hb, rfl⟩ := ref_at hy
      obtain ⟨p, hp, ht⟩ := paired_get pr hb
      have ht2 : H2 b = some (.tup [.int p.1, .int p.2]) := s2 b _ ht
      refine ⟨b, _, rfl, SqT.of ht2, rfl, _, _, rfl, _, _, rfl, rfl, rfl, ?_⟩
      refine ⟨_, rfl, rfl, _, rfl, ?_⟩
      have etk : (hds t).take (n + 1) = (hds t).take n ++ [p] := by rw [List.take_add_one, hp]; rfl
      by_cases h7 : p.1 = 7
      · rw [decide_eq_true (show V.int p.1 = V.int 7 by rw [h7])]
        refine iteT ⟨_, rfl, _, hD2, ?_, ?_, fun c o e => ?_⟩
        · refine small1000 ?_
          rw [List.length_map]
          refine Nat.le_trans (List.length_filter_le _ _) ?_
          rw [List.length_take]
          have := hds_len t
          omega
        · rw [upd_same, etk, List.filter_append, List.map_append]
          congr 2
          rw [List.filter_cons_of_pos (show isUnk p = true from decide_eq_true h7)]
          rfl
        · rw [upd_ne (ne_of_none e hD)]
          exact s2 c o e
      · rw [decide_eq_false (fun z => h7 (V.int.inj z))]
        refine iteF ⟨?_, s2⟩
        rw [etk, List.filter_append, List.filter_cons_of_neg (show ¬ isUnk p = true from fun z => h7 (of_decide_eq_true z)), List.filter_nil, List.append_nil]
        exact hD2
    · rintro H2 ⟨hD2, s2⟩
      rw [List.length_map, hlen2, List.take_length] at hD2
      have el : ((hds t).filter isUnk).map (fun p => V.int p.2) = ((Sa91.unknowns t).map fun (n : Nat) => (n : Int)).map V.int := by
        rw [← hds_unk, List.map_map]
        rfl
      rw [el] at hD2
      have h4 : ∀ n ∈ (Sa91.unknowns t).map (fun (n : Nat) => (n : Int)), 0 ≤ n ∧ n < 4 := fun n hn => by
        obtain ⟨u, hu, e⟩ := List.mem_map.mp hn
        have := unk_lt wf hu
        omega
      refine ⟨D, _, rfl, SqL.of hD2, h4, fun lt S hS => ?_⟩
      refine ⟨S, _, rfl, upd_same, lt, fun ns' z pm pw hz => ?_⟩
      obtain ⟨e1, e2⟩ := ints_nat pm
      have hzS : z ≠ S := fun q => by rw [q, upd_same] at hz; cases hz
      have hz2 : H2 z = none := by rw [upd_ne hzS] at hz; exact hz
      have sH : Same H H2 := fun c o e => s2 c o (s1 c o e)
      refine k (ns'.map Int.toNat) z _ ⟨rising pm pw (canL_nd _), fun v => ?_⟩ (fun c o e => ?_) ?_ (by rw [upd_same, e1])
      · rw [e2.mem_iff, canL_mem, bitsIn_bit _ _ _ h4]
        simp only [Nat.zero_testBit, Bool.false_or, decide_eq_true_eq, List.mem_map]
        constructor
        · rintro ⟨_, u, hu, e⟩
          have : u = v := by omega
          rw [← this]
          exact hu
        · intro h
          exact ⟨unk_lt wf h, v, h, rfl⟩
      · rw [upd_ne (ne_of_none (sH c o e) hz2), upd_ne (ne_of_none (sH c o e) hS)]
        exact sH c o e
      · exact sH.free hz2
end
end Tw

set_option maxRecDepth 100000
set_option linter.all false
set_option maxHeartbeats 4000000
namespace Tw
open PySem L2
def TupT (H : Hp) (a : Addr) (t : Sa91.Term) : Prop := H a = some (.tup (bV (enc t)))
def TermsAt (H : Hp) (la : Addr) (ts : List Sa91.Term) : Prop := ∃ as : List Addr, H la = some (.lst (as.map V.ref)) ∧ Paired (TupT H) as ts
def EvT (H : Hp) (a : Addr) (e : Sa91.Event) : Prop := ∃ ta, H a = some (.tup [.int (e.kind : Int), .ref ta]) ∧ TupT H ta e.term
def EventsAt (H : Hp) (la : Addr) (es : List Sa91.Event) : Prop := ∃ as : List Addr, H la = some (.lst (as.map V.ref)) ∧ Paired (EvT H) as es
def PartsAt (H : Hp) (la : Addr) (ps : List (List Sa91.Event)) : Prop := ∃ as : List Addr, H la = some (.lst (as.map V.ref)) ∧ Paired (EventsAt H) as ps
/-- tuples stay -/
def TupsIn (H H' : Hp) : Prop := ∀ a xs, H a = some (.tup xs) → H' a = some (.tup xs)
theorem But.tups {p : Addr} {H H' : Hp} (b : But p H H') {C dx : Addr} {fs : List (Str × V)} (hp : H p = some (.ins C dx fs)) : TupsIn H H' := fun a xs e => b a _ e (ne_of e hp (by intro z; cases z))
theorem paired_tups {H H' : Hp} {as : List Addr} {ts : List Sa91.Term} (h : TupsIn H H') (q : Paired (TupT H) as ts) : Paired (TupT H') as ts := Paired.mono (fun a t e => h a _ e) q
theorem paired_evs {H H' : Hp} {as : List Addr} {ts : List Sa91.Event} (h : TupsIn H H') (q : Paired (EvT H) as ts) : Paired (EvT H') as ts := Paired.mono (fun a e ⟨ta, e1, e2⟩ => ⟨ta, h a _ e1, h ta _ e2⟩) q
def spWhole (K : PySem.W.Frag) (CR XN : Addr) : Sp := fun vs H Q E => ∃ (p l : Addr) (i m : Nat) (b : List Nat), vs = [.ref p, .int (m : Int)] ∧ RdAt CR H p l i ∧ SqL K H l (bV b) ∧ i ≤ b.length ∧ b.length ≤ 512 ∧ m ≤ 100 ∧
  (Sa91.counted 0 m wt (b.drop i) = none → ∀ H', E (.ref XN) none H') ∧
  ∀ ts r, Sa91.counted 0 m wt (b.drop i) = some (ts, r) → ∀ (la : Addr) (j : Nat) (H' : Hp), b.drop j = r → j ≤ b.length → RdAt CR H' p l j → But p H H' → H la = none → TermsAt H' la ts → Q (.ref la) H'
def spPart (K : PySem.W.Frag) (CR XN : Addr) : Sp := fun vs H Q E => ∃ (p l : Addr) (i : Nat) (b : List Nat), vs = [.ref p] ∧ RdAt CR H p l i ∧ SqL K H l (bV b) ∧ i ≤ b.length ∧ b.length ≤ 512 ∧
  (evc (b.drop i) = none → ∀ H', E (.ref XN) none H') ∧
  ∀ es r, evc (b.drop i) = some (es, r) → ∀ (la : Addr) (j : Nat) (H' : Hp), b.drop j = r → j ≤ b.length → RdAt CR H' p l j → But p H H' → H la = none → EventsAt H' la es → Q (.ref la) H'
theorem unk_nil {t : Sa91.Term} {us : List Nat} (h : UnkOf t us) : us = [] ↔ Sa91.unknowns t = [] := by
  constructor
  · intro e
    cases hu : Sa91.unknowns t with
    | nil => rfl
    | cons v r =>
      have z := (h.2 v).mpr (by rw [hu]; exact List.mem_cons_self)
      rw [e] at z
      cases z
  · intro e
    cases us with
    | nil => rfl
    | cons v r =>
      have z := (h.2 v).mp List.mem_cons_self
      rw [e] at z
      cases z
section
variable {P : Program} {w : World} {K : PySem.W.Frag} {mg : Str → Option Value} {base : Heap} {ad : Adr}
theorem scWh : FnScope ["reader", "most", "terms", "how_many", "number", "term"] ["reader", "most"] (defScope s_take_whole_terms) := ⟨rfl, rfl, rfl, by decide +kernel, rfl, by decide +kernel, by decide +kernel⟩
theorem ok_whole {f fT fM fU : Addr} {fd fdT fdM fdU : FuncData} (F : Fun K "take_whole_terms" "take_whole_terms" s_take_whole_terms f fd) (T : Txt K mg ad)
    (GT : FnOk P w K mg base (CXe P w) 2 fT fdT ["self", "most"] (spTake K ad.CR ad.XN)) (bT : Binds K fdT ["self", "most"] []) (mT : Meth K ad.CR "take" fT)
    (GM : FnOk P w K mg base (CXe P w) 3 fM fdM ["self"] (spTerm K ad.CR ad.XN)) (bM : Binds K fdM ["self"] []) (mM : Meth K ad.CR "take_term" fM)
    (GU : FnOk P w K mg base CX0 2 fU fdU ["term"] spUnk) (bU : Binds K fdU ["term"] []) (mgU : mg "unknowns_of" = some (.ref fU)) (kU : PySem.W.keepIn K (.ref fU) = true) :
    FnOk P w K mg base (CXe P w) 4 f fd ["reader", "most"] (spWhole K ad.CR ad.XN) := by
  refine F.okE scWh (fun vs H Q E h => ?_) (fun cdv A outer s H vs Q E hr h => ?_)
  · obtain ⟨p, l, i, m, b, rfl, _⟩ := h
    rfl
  · obtain ⟨p, l, i, m, b, rfl, R, hS, hi, hb5, hm, kn, ks⟩ := h
    obtain ⟨dx, hp⟩ := id R
    have hr2 : Room 2 _ := hr.mono (by decide)
    have hr1 : Room 1 _ := hr.mono (by decide)
    refine ⟨_, pss_cons (ps_set (i := 2) scWh.nd rfl (Or.inl rfl) (pe_lst pa_nil))
      (pss_cons (ps_set (i := 3) scWh.nd rfl (Or.inl rfl) (pe_meth (pv 0) T.clR mT GT hr2 bT .nil passE (pa_cons (pv 1) pa_nil)))
      (pss_cons (ps_for powE rfl (pi_range1 (by rfl) T.range (pa_cons (pv 3) pa_nil)) (pg_name (i := 4) scWh.nd rfl (Or.inl rfl))
        (pss_cons (ps_set (i := 5) scWh.nd rfl (Or.inl rfl) (pe_meth0 (pv 0) T.clR mM GM hr bM .nil passE))
        (pss_cons (ps_if (pt_cmpR op_gt (pe_callB call_len_seq (by rfl) T.len PySem.boot_len (pa_cons (pe_call GU hr2 (by rfl) mgU kU bU .nil pass0 (pa_cons (pv 5) pa_nil)) pa_nil)) pe_int (nomark _))
            (pss_one (ps_raise (by rfl) T.mgN T.exN)) pss_nil)
        (pss_one (ps_expr (pe_bm PySem.F.plainAttrs_list PySem.F.slot_list_append PySem.F.type_list_append mt_append (pv 2) (pa_cons (pv 5) pa_nil)))))))
      (pss_one (ps_ret (pv 2))))), ?_⟩
    refine ⟨Nat.zero_le _, fun la hla => ?_⟩
    have npl : p ≠ la := ne_of_none hp hla
    have hp0 : upd H la (.lst []) p = some (.ins ad.CR dx (rdF l (i : Int))) := by rw [upd_ne npl]; exact hp
    have s0 : Same H (upd H la (.lst [])) := fun c o e => by rw [upd_ne (ne_of_none e hla)]; exact e
    refine ⟨_, rfl, p, dx, _, rfl, hp0, rdF_no _ _ (by decide +kernel) (by decide +kernel), _, rfl, p, l, i, m, b, rfl, ⟨dx, hp0⟩, s0.seq hS, hi, fun z => kn (by rw [drop_nil z]; rfl) _, fun c hc => ⟨fun z => kn ?_ _, fun hcm H1 R1 B1 => ?_⟩⟩
    · rw [drop_at hc]
      show (if 0 ≤ c ∧ c ≤ m then _ else none) = none
      rw [if_neg (by omega)]
    have hlt : i < b.length := (List.getElem?_eq_some_iff.mp hc).1
    have ect : Sa91.counted 0 m wt (b.drop i) = wt c (b.drop (i + 1)) := by
      rw [drop_at hc]
      show (if 0 ≤ c ∧ c ≤ m then _ else none) = _
      rw [if_pos ⟨Nat.zero_le _, hcm⟩]
    rw [ect] at kn ks
    refine ⟨_, rfl, (c : Int), rfl, by omega, by omega, for_range (n := c) (fun n σ H2 => ∃ (ts : List Sa91.Term) (as : List Addr) (j : Nat) (v4 v5 : Option V), σ = [some (.ref p), some (.int (m : Int)), some (.ref la), some (.int (c : Int)), v4, v5] ∧ H2 la = some (.lst (as.map V.ref)) ∧ Paired (TupT H2) as ts ∧ as.length = n ∧
        RdAt ad.CR H2 p l j ∧ But p H H2 ∧ j ≤ b.length ∧ wt c (b.drop (i + 1)) = (wt (c - n) (b.drop j)).map fun l => (ts ++ l.1, l.2)) ⟨[], [], i + 1, none, none, rfl, ?_, .nil, rfl, R1, (But.ofSame s0).trans B1, hlt, ?_⟩ ?_ ?_⟩
    · exact B1 la _ upd_same (Ne.symm npl)
    · show wt c _ = (wt c _).map fun l => ([] ++ l.1, l.2)
      cases wt c (b.drop (i + 1)) <;> rfl
    · rintro n σ H2 hn ⟨ts, as, j, v4, v5, rfl, hl2, pr, hlen, R2, B2, hj, ew⟩
      obtain ⟨k, ek⟩ : ∃ k, c - n = k + 1 := ⟨c - n - 1, by omega⟩
      rw [ek] at ew
      obtain ⟨dx2, hp2⟩ := id R2
      have hS2 : SqL K H2 l (bV b) := B2.seq hp hS
      refine ⟨_, rfl, p, dx2, _, rfl, hp2, rdF_no _ _ (by decide +kernel) (by decide +kernel), p, l, j, b, rfl, R2, hS2, hj, fun z => kn (wt_none ew z), fun t r et a H3 R3 B3 ha3 ha3' => ?_⟩
      obtain ⟨e1, wf⟩ := termOf_some et
      have hle := term_le hj e1
      have edr := drop_term e1
      refine ⟨_, rfl, a, t, rfl, ha3', wf, by omega, fun us q H4 hu s4 hq hq' => ?_⟩
      refine ⟨q, _, rfl, .inl (SqL.of hq'), _, _, rfl, rfl, _, rfl, ?_⟩
      rw [bV_length]
      by_cases hus : us = []
      · rw [hus, decide_eq_false (by decide : ¬ (0 : Int) < (([] : List Nat).length : Int))]
        refine iteF ?_
        obtain ⟨dx3, hp3⟩ := id R3
        have npla : la ≠ p := Ne.symm npl
        have hl4 : H4 la = some (.lst (as.map V.ref)) := s4 la _ (B3 la _ hl2 npla)
        refine ⟨_, rfl, .inl ⟨rfl, _, SqL.of hl4⟩, _, rfl, la, _, _, rfl, rfl, hl4, small1000 (by rw [List.length_map]; omega), ?_⟩
        have tin : TupsIn H2 (upd H4 la (.lst (as.map V.ref ++ [V.ref a]))) := fun x xs e => by
          have e4 := s4 x _ (B3.tups hp2 x xs e)
          rw [upd_ne (ne_of e4 hl4 (by intro z; cases z))]
          exact e4
        have ha4 := s4 a _ ha3'
        refine ⟨ts ++ [t], as ++ [a], j + (enc t).length, _, _, rfl, ?_, Paired.snoc (paired_tups tin pr) ?_, by rw [List.length_append]; show as.length + 1 = n + 1; rw [hlen], ⟨dx3, ?_⟩, fun x o e nx => ?_, hle, ?_⟩
        · rw [upd_same, List.map_append]
          rfl
        · show upd H4 la _ a = _
          rw [upd_ne (ne_of ha4 hl4 (by intro z; cases z))]
          exact ha4
        · have hp4 := s4 p _ hp3
          rw [upd_ne npl]
          exact hp4
        · have nxl : x ≠ la := ne_of_none e hla
          rw [upd_ne nxl]
          exact s4 x o (B3 x o (B2 x o e nx) nx)
        · rw [show c - (n + 1) = k by omega, edr]
          exact wt_next ew et ((unk_nil hu).mp hus)
      · have hpos : (0 : Int) < (us.length : Int) := by
          have : 0 < us.length := List.length_pos_iff.mpr hus
          omega
        rw [decide_eq_true hpos]
        exact iteT (kn (wt_bad ew et fun z => hus ((unk_nil hu).mpr z)) _)
    · rintro σ H2 ⟨ts, as, j, v4, v5, rfl, hl2, pr, hlen, R2, B2, hj, ew⟩
      rw [Nat.sub_self] at ew
      exact ⟨_, rfl, ks ts _ (wt_end ew) la j H2 rfl hj R2 B2 hla ⟨as, hl2, pr⟩⟩
end
end Tw

set_option maxRecDepth 100000
set_option linter.all false
set_option maxHeartbeats 4000000
namespace Tw
open PySem L2
section
variable {P : Program} {w : World} {K : PySem.W.Frag} {mg : Str → Option Value} {base : Heap} {ad : Adr}
theorem scPt : FnScope ["reader", "events", "got", "how_many", "number", "kind", "term", "unknown"] ["reader"] (defScope s_take_part) := ⟨rfl, rfl, rfl, by decide +kernel, rfl, by decide +kernel, by decide +kernel⟩
theorem ok_part {f fT fM fU : Addr} {fd fdT fdM fdU : FuncData} (F : Fun K "take_part" "take_part" s_take_part f fd) (T : Txt K mg ad)
    (GT : FnOk P w K mg base (CXe P w) 2 fT fdT ["self", "most"] (spTake K ad.CR ad.XN)) (bT : Binds K fdT ["self", "most"] []) (mT : Meth K ad.CR "take" fT)
    (GM : FnOk P w K mg base (CXe P w) 3 fM fdM ["self"] (spTerm K ad.CR ad.XN)) (bM : Binds K fdM ["self"] []) (mM : Meth K ad.CR "take_term" fM)
    (GU : FnOk P w K mg base CX0 2 fU fdU ["term"] spUnk) (bU : Binds K fdU ["term"] []) (mgU : mg "unknowns_of" = some (.ref fU)) (kU : PySem.W.keepIn K (.ref fU) = true) :
    FnOk P w K mg base (CXe P w) 4 f fd ["reader"] (spPart K ad.CR ad.XN) := by
  obtain ⟨t1, hME⟩ := T.kME
  obtain ⟨t2, hEN⟩ := T.kENDS
  obtain ⟨t3, hGE⟩ := T.kGETS
  refine F.okE scPt (fun vs H Q E h => ?_) (fun cdv A outer s H vs Q E hr h => ?_)
  · obtain ⟨p, l, i, b, rfl, _⟩ := h
    rfl
  · obtain ⟨p, l, i, b, rfl, R, hS, hi, hb5, kn, ks⟩ := h
    obtain ⟨dx, hp⟩ := id R
    have hr2 : Room 2 _ := hr.mono (by decide)
    have hr1 : Room 1 _ := hr.mono (by decide)
    have hu := hu_of hr
    refine ⟨_, pss_cons (ps_set (i := 1) scPt.nd rfl (Or.inl rfl) (pe_lst pa_nil))
      (pss_cons (ps_set (i := 2) scPt.nd rfl (Or.inl rfl) pe_dnewK)
      (pss_cons (ps_set (i := 3) scPt.nd rfl (Or.inl rfl) (pe_meth (pv 0) T.clR mT GT hr2 bT .nil passE (pa_cons (pe_gi hME) pa_nil)))
      (pss_cons (ps_for powE rfl (pi_range1 (by rfl) T.range (pa_cons (pv 3) pa_nil)) (pg_name (i := 4) scPt.nd rfl (Or.inl rfl))
        (pss_cons (ps_set (i := 5) scPt.nd rfl (Or.inl rfl) (pe_meth (pv 0) T.clR mT GT hr2 bT .nil passE (pa_cons (pe_gi hEN) pa_nil)))
        (pss_cons (ps_set (i := 6) scPt.nd rfl (Or.inl rfl) (pe_meth0 (pv 0) T.clR mM GM hr bM .nil passE))
        (pss_cons (ps_for powE rfl (pi_list (pe_call GU hr2 (by rfl) mgU kU bU .nil pass0 (pa_cons (pv 6) pa_nil))) (pg_name (i := 7) scPt.nd rfl (Or.inl rfl))
          (pss_one (ps_if (pt_cmpR op_eq (pv 5) (pe_gi hGE) (nomark _))
            (pss_one (ps_dput hu (pv 2) (pv 7) pe_bl rfl))
            (pss_one (ps_if (pt_cmp (pc_dnotin hu (pv 7) (pv 2))) (pss_one (ps_raise (by rfl) T.mgN T.exN)) pss_nil)))))
        (pss_one (ps_expr (pe_bm PySem.F.plainAttrs_list PySem.F.slot_list_append PySem.F.type_list_append mt_append (pv 1) (pa_cons (pe_tup (pa_cons (pv 5) (pa_cons (pv 6) pa_nil))) pa_nil))))))))
      (pss_one (ps_ret (pv 1)))))), ?_⟩
    refine ⟨Nat.zero_le _, fun la hla => ?_⟩
    intro d hd
    have npl : p ≠ la := ne_of_none hp hla
    have ndl : d ≠ la := fun z => by rw [z, upd_same] at hd; cases hd
    have hd0 : H d = none := by rw [upd_ne ndl] at hd; exact hd
    have npd : p ≠ d := ne_of_none hp hd0
    have s0 : Same H (upd (upd H la (.lst [])) d (.dK [])) := fun c o e => by rw [upd_ne (ne_of_none e hd0), upd_ne (ne_of_none e hla)]; exact e
    have hp0 := s0 p _ hp
    refine ⟨_, rfl, p, dx, _, rfl, hp0, rdF_no _ _ (by decide +kernel) (by decide +kernel), p, l, i, 6, b, rfl, ⟨dx, hp0⟩, s0.seq hS, hi, fun z => kn (by rw [drop_nil z]; rfl) _, fun c hc => ⟨fun z => kn ?_ _, fun hcm H1 R1 B1 => ?_⟩⟩
    · rw [drop_at hc]
      show (if c ≤ 6 then _ else none) = none
      rw [if_neg (by omega)]
    have hlt : i < b.length := (List.getElem?_eq_some_iff.mp hc).1
    have ect : evc (b.drop i) = ev [] c (b.drop (i + 1)) := by
      rw [drop_at hc]
      show (if c ≤ 6 then _ else none) = _
      rw [if_pos hcm]
    rw [ect] at kn ks
    refine ⟨_, rfl, (c : Int), rfl, by omega, by omega, for_range (n := c) (fun n σ H2 => ∃ (es : List Sa91.Event) (as : List Addr) (kvs : List (Key × V)) (kk : List Nat) (got : List Nat) (j : Nat) (v4 v5 v6 v7 : Option V),
        σ = [some (.ref p), some (.ref la), some (.ref d), some (.int (c : Int)), v4, v5, v6, v7] ∧ H2 la = some (.lst (as.map V.ref)) ∧ Paired (EvT H2) as es ∧ as.length = n ∧
        H2 d = some (.dK kvs) ∧ kvs.map (·.1) = inK kk ∧ kk.Nodup ∧ (∀ v ∈ kk, v < 4) ∧ (∀ v, v ∈ kk ↔ v ∈ got) ∧
        RdAt ad.CR H2 p l j ∧ But p H H2 ∧ j ≤ b.length ∧ ev [] c (b.drop (i + 1)) = (ev got (c - n) (b.drop j)).map fun l => (es ++ l.1, l.2))
        ⟨[], [], [], [], [], i + 1, none, none, none, none, rfl, ?_, .nil, rfl, ?_, rfl, List.nodup_nil, (by intro v hv; cases hv), (fun v => Iff.rfl), R1, (But.ofSame s0).trans B1, hlt, ?_⟩ ?_ ?_⟩
    · exact B1 la _ (by rw [upd_ne (Ne.symm ndl)]; exact upd_same) (Ne.symm npl)
    · exact B1 d _ upd_same (Ne.symm npd)
    · show ev [] c _ = (ev [] c _).map fun l => ([] ++ l.1, l.2)
      cases ev [] c (b.drop (i + 1)) <;> rfl
    · rintro n σ H2 hn ⟨es, as, kvs, kk, got, j, v4, v5, v6, v7, rfl, hl2, pr, hlen, hd2, ek, nd, k4, mem, R2, B2, hj, ew⟩
      obtain ⟨k, ekk⟩ : ∃ k, c - n = k + 1 := ⟨c - n - 1, by omega⟩
      rw [ekk] at ew
      obtain ⟨dx2, hp2⟩ := id R2
      have hS2 : SqL K H2 l (bV b) := B2.seq hp hS
      -- kind = reader.take(ENDS)
      refine ⟨_, rfl, p, dx2, _, rfl, hp2, rdF_no _ _ (by decide +kernel) (by decide +kernel), p, l, j, 3, b, rfl, R2, hS2, hj, fun z => kn (ev_nil (by rw [drop_nil z] at ew; exact ew)) _, fun kd hkd => ⟨fun z => kn ?_ _, fun hk3 H3 R3 B3 => ?_⟩⟩
      · rw [drop_at hkd] at ew
        exact ev_kind ew z
      rw [drop_at hkd] at ew
      obtain ⟨dx3, hp3⟩ := id R3
      have B3' := B2.trans B3
      have hS3 : SqL K H3 l (bV b) := B3'.seq hp hS
      have hj1 : j + 1 ≤ b.length := (List.getElem?_eq_some_iff.mp hkd).1
      -- term = reader.take_term()
      refine ⟨_, rfl, p, dx3, _, rfl, hp3, rdF_no _ _ (by decide +kernel) (by decide +kernel), p, l, j + 1, b, rfl, R3, hS3, hj1, fun z => kn (ev_term ew z), fun t r et ta H4 R4 B4 hta hta' => ?_⟩
      obtain ⟨e1, wf⟩ := termOf_some et
      have hle := term_le hj1 e1
      have edr := drop_term e1
      obtain ⟨dx4, hp4⟩ := id R4
      have B4' := B3'.trans B4
      -- for unknown in unknowns_of(term)
      refine ⟨_, rfl, ta, t, rfl, hta', wf, by omega, fun us q H5 hus s5 hq hq' => ?_⟩
      have nla : la ≠ p := Ne.symm npl
      have nda : d ≠ p := Ne.symm npd
      have hl5 : H5 la = some (.lst (as.map V.ref)) := s5 la _ (B4 la _ (B3 la _ hl2 nla) nla)
      have hd5 : H5 d = some (.dK kvs) := s5 d _ (B4 d _ (B3 d _ hd2 nda) nda)
      have hp5 := s5 p _ hp4
      have hta5 := s5 ta _ hta'
      have nqd : q ≠ d := ne_of hq' hd5 (by intro z; cases z)
      refine ⟨q, rfl, ⟨_, SqL.of hq'⟩, for_list (K := K) (a := q) (xs := bV us) (fun x σ H6 => ∃ (kvs6 : List (Key × V)) (kk6 : List Nat) (v7 : Option V), σ = [some (.ref p), some (.ref la), some (.ref d), some (.int (c : Int)), some (.int (0 + (n : Int))), some (.int (kd : Int)), some (.ref ta), v7] ∧
          H6 d = some (.dK kvs6) ∧ (∀ z o, H5 z = some o → z ≠ d → H6 z = some o) ∧ kvs6.map (·.1) = inK kk6 ∧ kk6.Nodup ∧ (∀ v ∈ kk6, v < 4) ∧ (kd = 0 → ∀ v, v ∈ kk6 ↔ v ∈ got ∨ v ∈ us.take x) ∧ (kd ≠ 0 → (∀ v, v ∈ kk6 ↔ v ∈ got) ∧ ∀ v ∈ us.take x, v ∈ got))
        ⟨kvs, kk, v7, rfl, hd5, fun z o e _ => e, ek, nd, k4, fun _ v => by simp [mem v], fun _ => ⟨mem, fun v hv => by simp at hv⟩⟩ (fun x σ H6 _ ⟨_, _, _, _, _, kp, _⟩ => SqL.of (kp q _ hq' nqd)) ?_ ?_⟩
      · rintro x y σ H6 hx ⟨kvs6, kk6, v7, rfl, hd6, kp, ek6, nd6, k46, m0, m1⟩
        obtain ⟨u, hu1, rfl⟩ : ∃ u, us[x]? = some u ∧ y = V.int (u : Int) := by
          unfold bV at hx
          rw [List.getElem?_map] at hx
          cases e : us[x]? with
          | none => rw [e] at hx; cases hx
          | some u => rw [e] at hx; exact ⟨u, rfl, (Option.some.inj hx).symm⟩
        have etk : us.take (x + 1) = us.take x ++ [u] := by
          obtain ⟨hxl, hxe⟩ := List.getElem?_eq_some_iff.mp hu1
          rw [List.take_add_one, hu1]
          rfl
        have hu4 : u < 4 := unk_lt wf ((hus.2 u).mp (List.mem_of_getElem? hu1))
        refine ⟨_, rfl, rfl, _, rfl, ?_⟩
        rw [show decide (V.int (kd : Int) = V.int 0) = decide (kd = 0) from decV (b := 0)]
        by_cases h0 : kd = 0
        · rw [decide_eq_true h0]
          refine iteT ?_
          obtain ⟨ks', e1', e2', e3', e4'⟩ := put_keys (v := u) (.bl true) ek6 nd6
          refine ⟨_, rfl, _, rfl, d, _, rfl, DPut.k (k := Sum.inl (u : Int)) hd6 (small1000 (by
            have z := congrArg List.length ek6
            unfold inK at z
            rw [List.length_map, List.length_map] at z
            have := nodup_lt 4 kk6 nd6 k46
            omega)), ?_⟩
          refine ⟨_, ks', _, rfl, upd_same, fun z o e nz => by rw [upd_ne nz]; exact kp z o e nz, e1', e2', fun v hv => ?_, fun _ v => ?_, fun z => absurd h0 z⟩
          · rcases (e3' v).mp hv with z | z
            · exact k46 v z
            · rw [z]; exact hu4
          · rw [e3' v, m0 h0 v, etk]
            simp [or_assoc]
        · rw [decide_eq_false h0]
          refine iteF ?_
          obtain ⟨m2, m3⟩ := m1 h0
          refine ⟨_, rfl, _, rfl, d, _, rfl, DGet.k (k := Sum.inl (u : Int)) hd6, _, rfl, ?_⟩
          cases hv : valV kvs6 (Sum.inl (u : Int) : Key) with
          | none =>
            refine iteT ?_
            have z := valV_not hv
            rw [ek6] at z
            have z2 : u ∉ got := fun q => z (inK_mem.mpr ((m2 u).mpr q))
            exact kn (ev_bad ew et h0 ((hus.2 u).mp (List.mem_of_getElem? hu1)) z2) _
          | some y =>
            refine iteF ?_
            have z := valV_in hv
            rw [ek6] at z
            have z2 : u ∈ got := (m2 u).mp (inK_mem.mp z)
            refine ⟨kvs6, kk6, _, rfl, hd6, kp, ek6, nd6, k46, fun z => absurd z h0, fun _ => ⟨m2, fun v hv => ?_⟩⟩
            rw [etk] at hv
            rcases List.mem_append.mp hv with q | q
            · exact m3 v q
            · rw [List.mem_singleton.mp q]
              exact z2
      · rintro σ H6 ⟨kvs6, kk6, v7, rfl, hd6, kp, ek6, nd6, k46, m0, m1⟩
        rw [bV_length, List.take_length] at m0 m1
        have nld : la ≠ d := Ne.symm ndl
        have hl6 := kp la _ hl5 nld
        have hta6 := kp ta _ hta5 (ne_of hta5 hd5 (by intro z; cases z))
        -- events.append((kind, term))
        refine ⟨_, rfl, .inl ⟨rfl, _, SqL.of hl6⟩, _, rfl, _, rfl, (by show 2 ≤ sizeLine; decide), fun a ha => ?_⟩
        have hl7 : upd H6 a (.tup [.int (kd : Int), .ref ta]) la = some (.lst (as.map V.ref)) := by rw [upd_ne (ne_of_none hl6 ha)]; exact hl6
        refine ⟨la, _, _, rfl, rfl, hl7, small1000 (by rw [List.length_map]; omega), ?_⟩
        have nal : a ≠ la := fun z => by rw [z, hl6] at ha; cases ha
        have nad : a ≠ d := fun z => by rw [z, hd6] at ha; cases ha
        have tin : TupsIn H2 (upd (upd H6 a (.tup [.int (kd : Int), .ref ta])) la (.lst (as.map V.ref ++ [V.ref a]))) := fun x xs e => by
          have e4 := s5 x _ (B4.tups hp3 x xs (B3.tups hp2 x xs e))
          have e6 := kp x _ e4 (ne_of e4 hd5 (by intro z; cases z))
          rw [upd_ne (ne_of e6 hl6 (by intro z; cases z)), upd_ne (ne_of_none e6 ha)]
          exact e6
        have fin : ∀ got', (∀ v, v ∈ kk6 ↔ v ∈ got') → ev [] c (b.drop (i + 1)) = (ev got' k r).map (fun l => ((es ++ [(⟨kd, t⟩ : Sa91.Event)]) ++ l.1, l.2)) →
            ∃ (es : List Sa91.Event) (as' : List Addr) (kvs : List (Key × V)) (kk : List Nat) (got : List Nat) (j : Nat) (v4 v5 v6 v7' : Option V),
              [some (V.ref p), some (V.ref la), some (V.ref d), some (V.int (c : Int)), some (V.int (0 + (n : Int))), some (V.int (kd : Int)), some (V.ref ta), v7] = [some (.ref p), some (.ref la), some (.ref d), some (.int (c : Int)), v4, v5, v6, v7'] ∧ (upd (upd H6 a (.tup [.int (kd : Int), .ref ta])) la (.lst (as.map V.ref ++ [V.ref a]))) la = some (.lst (as'.map V.ref)) ∧ Paired (EvT (upd (upd H6 a (.tup [.int (kd : Int), .ref ta])) la (.lst (as.map V.ref ++ [V.ref a])))) as' es ∧ as'.length = n + 1 ∧
              (upd (upd H6 a (.tup [.int (kd : Int), .ref ta])) la (.lst (as.map V.ref ++ [V.ref a]))) d = some (.dK kvs) ∧ kvs.map (·.1) = inK kk ∧ kk.Nodup ∧ (∀ v ∈ kk, v < 4) ∧ (∀ v, v ∈ kk ↔ v ∈ got) ∧
              RdAt ad.CR (upd (upd H6 a (.tup [.int (kd : Int), .ref ta])) la (.lst (as.map V.ref ++ [V.ref a]))) p l j ∧ But p H (upd (upd H6 a (.tup [.int (kd : Int), .ref ta])) la (.lst (as.map V.ref ++ [V.ref a]))) ∧ j ≤ b.length ∧ ev [] c (b.drop (i + 1)) = (ev got (c - (n + 1)) (b.drop j)).map fun l => (es ++ l.1, l.2) := fun got' hg he => by
          have hp6 := kp p _ hp5 npd
          refine ⟨es ++ [(⟨kd, t⟩ : Sa91.Event)], as ++ [a], kvs6, kk6, got', j + 1 + (enc t).length, _, _, _, _, rfl, ?_, Paired.snoc (paired_evs tin pr) ⟨ta, ?_, ?_⟩, by rw [List.length_append]; show as.length + 1 = n + 1; rw [hlen], ?_, ek6, nd6, k46, hg, ⟨dx4, ?_⟩, fun x o e nx => ?_, hle, ?_⟩
          · rw [upd_same, List.map_append]
            rfl
          · rw [upd_ne nal, upd_same]
          · show upd (upd H6 a _) la _ ta = _
            rw [upd_ne (ne_of hta6 hl6 (by intro z; cases z)), upd_ne (ne_of_none hta6 ha)]
            exact hta6
          · rw [upd_ne ndl, upd_ne (Ne.symm nad)]
            exact hd6
          · rw [upd_ne npl, upd_ne (ne_of_none hp6 ha)]
            exact hp6
          · have e5 := s5 x o (B4' x o e nx)
            have nxd : x ≠ d := ne_of_none e hd0
            have e6 := kp x o e5 nxd
            rw [upd_ne (ne_of_none e hla), upd_ne (ne_of_none e6 ha)]
            exact e6
          · rw [show c - (n + 1) = k by omega, edr]
            exact he
        by_cases h0 : kd = 0
        · subst h0
          refine fin (got ++ Sa91.unknowns t) (fun v => ?_) (ev_gets ew et)
          rw [m0 rfl v, List.mem_append, hus.2 v]
        · obtain ⟨m2, m3⟩ := m1 h0
          exact fin got m2 (ev_next ew et hk3 h0 fun v hv => m3 v ((hus.2 v).mpr hv))
    · rintro σ H2 ⟨es, as, kvs, kk, got, j, v4, v5, v6, v7, rfl, hl2, pr, hlen, hd2, ek, nd, k4, mem, R2, B2, hj, ew⟩
      rw [Nat.sub_self] at ew
      exact ⟨_, rfl, ks es _ (ev_end ew) la j H2 rfl hj R2 B2 hla ⟨as, hl2, pr⟩⟩
end
end Tw

set_option maxRecDepth 100000
set_option linter.all false
set_option maxHeartbeats 4000000
namespace Tw
open PySem L2
/-! ### what is read stays as it was read -/
/-- all that matters stays, but for the things at which T holds -/
def Stay (H H' : Hp) : Prop := (∀ a xs, H a = some (.tup xs) → H' a = some (.tup xs)) ∧ ∀ a xs, H a = some (.lst xs) → H' a = some (.lst xs)
theorem But.stay {p C dx : Addr} {fs : List (Str × V)} {H H' : Hp} (b : But p H H') (hp : H p = some (.ins C dx fs)) : Stay H H' := ⟨fun a xs e => b a _ e (ne_of e hp (by intro z; cases z)), fun a xs e => b a _ e (ne_of e hp (by intro z; cases z))⟩
theorem Stay.ofSame {H H' : Hp} (s : Same H H') : Stay H H' := ⟨fun a xs e => s a _ e, fun a xs e => s a _ e⟩
theorem TermsAt.stay {H H' : Hp} {la : Addr} {ts : List Sa91.Term} (s : Stay H H') : TermsAt H la ts → TermsAt H' la ts := fun ⟨as, e, q⟩ => ⟨as, s.2 _ _ e, paired_tups s.1 q⟩
theorem EventsAt.stay {H H' : Hp} {la : Addr} {ts : List Sa91.Event} (s : Stay H H') : EventsAt H la ts → EventsAt H' la ts := fun ⟨as, e, q⟩ => ⟨as, s.2 _ _ e, paired_evs s.1 q⟩
theorem PartsAt.stay {H H' : Hp} {la : Addr} {ts : List (List Sa91.Event)} (s : Stay H H') : PartsAt H la ts → PartsAt H' la ts := fun ⟨as, e, q⟩ => ⟨as, s.2 _ _ e, Paired.mono (fun _ _ z => z.stay s) q⟩
theorem paired_list {H H' : Hp} {D : Addr} : ∀ {as : List Addr} {ps : List (List Sa91.Event)}, (∀ a xs, H a = some (.tup xs) → H' a = some (.tup xs)) → (∀ a xs, H a = some (.lst xs) → a ≠ D → H' a = some (.lst xs)) → (∀ a ∈ as, a ≠ D) → Paired (EventsAt H) as ps → Paired (EventsAt H') as ps
  | _, _, _, _, _, .nil => .nil
  | _, _, h1, h2, h3, .cons ⟨bs, e, q⟩ t => .cons ⟨bs, h2 _ _ e (h3 _ List.mem_cons_self), paired_evs h1 q⟩ (paired_list h1 h2 (fun a ha => h3 a (List.mem_cons_of_mem _ ha)) t)
def spParts (K : PySem.W.Frag) (CR XN : Addr) : Sp := fun vs H Q E => ∃ (p l : Addr) (i : Nat) (b : List Nat), vs = [.ref p] ∧ RdAt CR H p l i ∧ SqL K H l (bV b) ∧ i ≤ b.length ∧ b.length ≤ 512 ∧
  (Sa91.counted 1 4 pt (b.drop i) = none → ∀ H', E (.ref XN) none H') ∧
  ∀ es r, Sa91.counted 1 4 pt (b.drop i) = some (es, r) → ∀ (la : Addr) (j : Nat) (H' : Hp), b.drop j = r → j ≤ b.length → RdAt CR H' p l j → But p H H' → H la = none → PartsAt H' la es → Q (.ref la) H'
section
variable {P : Program} {w : World} {K : PySem.W.Frag} {mg : Str → Option Value} {base : Heap} {ad : Adr}
theorem scPs : FnScope ["reader", "how_many", "number"] ["reader"] (defScope s_take_parts) := ⟨rfl, rfl, rfl, by decide +kernel, rfl, by decide +kernel, by decide +kernel⟩
theorem blkPs : BlkOk ["reader", "how_many", "number"] (defScope s_take_parts) { kind := .function, names := [(".0", .local), ("number", .local), ("take_part", .globalImplicit), ("reader", .free)], isGenerator := false, isCoroutine := false } [("number", 2)] :=
  ⟨rfl, by decide +kernel, by decide +kernel, by decide +kernel, by decide +kernel⟩
theorem ok_parts {f fT fP : Addr} {fd fdT fdP : FuncData} (F : Fun K "take_parts" "take_parts" s_take_parts f fd) (T : Txt K mg ad)
    (GT : FnOk P w K mg base (CXe P w) 2 fT fdT ["self", "most"] (spTake K ad.CR ad.XN)) (bT : Binds K fdT ["self", "most"] []) (mT : Meth K ad.CR "take" fT)
    (GP : FnOk P w K mg base (CXe P w) 4 fP fdP ["reader"] (spPart K ad.CR ad.XN)) (bP : Binds K fdP ["reader"] []) (mgP : mg "take_part" = some (.ref fP)) (kP : PySem.W.keepIn K (.ref fP) = true) :
    FnOk P w K mg base (CXe P w) 5 f fd ["reader"] (spParts K ad.CR ad.XN) := by
  obtain ⟨t1, hMP⟩ := T.kMP
  refine F.okE scPs (fun vs H Q E h => ?_) (fun cdv A outer s H vs Q E hr h => ?_)
  · obtain ⟨p, l, i, b, rfl, _⟩ := h
    rfl
  · obtain ⟨p, l, i, b, rfl, R, hS, hi, hb5, kn, ks⟩ := h
    obtain ⟨dx, hp⟩ := id R
    have hr2 : Room 2 _ := hr.mono (by decide)
    refine ⟨_, pss_cons (ps_set (i := 1) scPs.nd rfl (Or.inl rfl) (pe_meth (pv 0) T.clR mT GT hr2 bT .nil passE (pa_cons (pe_gi hMP) pa_nil)))
      (pss_cons (ps_if (pt_cmpR op_eq (pv 1) pe_int (nomark _)) (pss_one (ps_raise (by rfl) T.mgN T.exN)) pss_nil)
      (pss_one (ps_ret (pe_lcX (own := [("number", 2)]) rfl scPs.nd (pi_range1 (by rfl) T.range (pa_cons (pv 1) pa_nil)) blkPs
        (fun _ _ _ _ _ => pg_name (i := 2) scPs.nd rfl (Or.inl rfl)) (fun _ _ _ _ _ => pts_nil) (fun _ _ _ _ _ _ hx => pe_call GP hr (by rfl) mgP kP bP .nil hx (pa_cons (pv 0) pa_nil)) rfl rfl lvDef)))), ?_⟩
    refine ⟨_, rfl, p, dx, _, rfl, hp, rdF_no _ _ (by decide +kernel) (by decide +kernel), p, l, i, 4, b, rfl, R, hS, hi, fun z => kn (by rw [drop_nil z]; rfl) _, fun c hc => ⟨fun z => kn ?_ _, fun hcm H1 R1 B1 => ?_⟩⟩
    · rw [drop_at hc]
      show (if 1 ≤ c ∧ c ≤ 4 then _ else none) = none
      rw [if_neg (by omega)]
    have hlt : i < b.length := (List.getElem?_eq_some_iff.mp hc).1
    refine ⟨_, rfl, rfl, _, rfl, ?_⟩
    rw [show decide (V.int (c : Int) = V.int 0) = decide (c = 0) from decV (b := 0)]
    by_cases h0 : c = 0
    · rw [decide_eq_true h0]
      refine iteT (kn ?_ _)
      rw [drop_at hc]
      show (if 1 ≤ c ∧ c ≤ 4 then _ else none) = none
      rw [if_neg (by omega)]
    rw [decide_eq_false h0]
    refine iteF ?_
    have ect : Sa91.counted 1 4 pt (b.drop i) = pt c (b.drop (i + 1)) := by
      rw [drop_at hc]
      show (if 1 ≤ c ∧ c ≤ 4 then _ else none) = _
      rw [if_pos ⟨by omega, hcm⟩]
    rw [ect] at kn ks
    obtain ⟨dx1, hp1⟩ := id R1
    refine ⟨_, rfl, (c : Int), rfl, by omega, by omega, fun D hD => ?_⟩
    have hD0 : H D = none := by
      cases z : H D with
      | none => rfl
      | some o =>
        by_cases e : D = p
        · rw [e, hp1] at hD; cases hD
        · rw [B1 D o z e] at hD; cases hD
    have npD : p ≠ D := ne_of_none hp1 hD
    refine lc_range (n := c) (fun n H2 => ∃ (ps : List (List Sa91.Event)) (as : List Addr) (j : Nat), H2 D = some (.lst (as.map V.ref)) ∧ Paired (EventsAt H2) as ps ∧ (∀ a ∈ as, a ≠ D) ∧ as.length = n ∧
        RdAt ad.CR H2 p l j ∧ But p H H2 ∧ j ≤ b.length ∧ pt c (b.drop (i + 1)) = (pt (c - n) (b.drop j)).map fun l => (ps ++ l.1, l.2)) ⟨[], [], i + 1, upd_same, .nil, (by intro a ha; cases ha), rfl, ⟨dx1, by rw [upd_ne npD]; exact hp1⟩, fun x o e nx => ?_, hlt, ?_⟩ ?_ ?_
    · rw [upd_ne (ne_of_none e hD0)]
      exact B1 x o e nx
    · show pt c _ = (pt c _).map fun l => ([] ++ l.1, l.2)
      cases pt c (b.drop (i + 1)) <;> rfl
    · rintro n H2 hn ⟨ps, as, j, hD2, pr, naD, hlen, R2, B2, hj, ew⟩
      obtain ⟨k, ek⟩ : ∃ k, c - n = k + 1 := ⟨c - n - 1, by omega⟩
      rw [ek] at ew
      obtain ⟨dx2, hp2⟩ := id R2
      have hS2 : SqL K H2 l (bV b) := B2.seq hp hS
      refine ⟨rfl, ?_⟩
      unfold tYes
      dsimp only
      rw [if_pos rfl]
      refine ⟨_, rfl, p, l, j, b, rfl, R2, hS2, hj, hb5, fun z => kn (pt_none ew z), fun es r et la j2 H3 e3 hj3 R3 B3 hla ev3 => ?_⟩
      have hD3 := B3 D _ hD2 (Ne.symm npD)
      obtain ⟨dx3, hp3⟩ := id R3
      have nla : la ≠ D := fun z => by rw [z, hD2] at hla; cases hla
      refine ⟨_, hD3, small1000 (by rw [List.length_map]; omega), ps ++ [es], as ++ [la], j2, ?_, Paired.snoc ?_ ?_, fun a ha => ?_, by rw [List.length_append]; show as.length + 1 = n + 1; rw [hlen], ⟨dx3, ?_⟩, fun x o e nx => ?_, hj3, ?_⟩
      · rw [upd_same, List.map_append]
        rfl
      · refine paired_list (D := D) (fun a xs e => ?_) (fun a xs e na => ?_) naD pr
        · have e' := (B3.stay hp2).1 a xs e
          rw [upd_ne (ne_of e' hD3 (by intro z; cases z))]
          exact e'
        · rw [upd_ne na]
          exact (B3.stay hp2).2 a xs e
      · obtain ⟨bs, e5, e6⟩ := ev3
        refine ⟨bs, by rw [upd_ne nla]; exact e5, paired_evs (fun a xs e => ?_) e6⟩
        rw [upd_ne (ne_of e hD3 (by intro z; cases z))]
        exact e
      · rcases List.mem_append.mp ha with z | z
        · exact naD a z
        · rw [List.mem_singleton.mp z]
          exact nla
      · rw [upd_ne npD]
        exact hp3
      · rw [upd_ne (ne_of_none e hD0)]
        exact B3 x o (B2 x o e nx) nx
      · rw [show c - (n + 1) = k by omega, e3]
        exact pt_next ew et
    · rintro H2 ⟨ps, as, j, hD2, pr, naD, hlen, R2, B2, hj, ew⟩
      rw [Nat.sub_self] at ew
      exact ks ps _ (pt_end ew) D j H2 rfl hj R2 B2 hD0 ⟨as, hD2, pr⟩
/-! ### Talk -/
def tlF (k q s : Addr) : List (Str × V) := putF "secrets" (.ref s) (putF "parts" (.ref q) (putF "known" (.ref k) []))
theorem ps1 : ¬ (("parts" : Str) = "secrets") := by decide +kernel
theorem tlF_parts (k q s : Addr) : (tlF k q s).lookup ("parts" : Str) = some (.ref q) := by
  unfold tlF
  rw [lookup_putF, if_neg ps1, lookup_putF, if_pos rfl]
def spTInit (CT : Addr) : Sp := fun vs H Q _ => ∃ (x k q s dx : Addr), vs = [.ref x, .ref k, .ref q, .ref s] ∧ H x = some (.ins CT dx []) ∧ ∀ H' : Hp, H' x = some (.ins CT dx (tlF k q s)) → But x H H' → Q .non H'
theorem scTI : FnScope ["self", "known", "parts", "secrets"] ["self", "known", "parts", "secrets"] (defScope s_Talk_init) := ⟨rfl, rfl, rfl, by decide +kernel, rfl, by decide +kernel, by decide +kernel⟩
theorem putF_len (f : Str) (v : V) : ∀ l : List (Str × V), (putF f v l).length ≤ l.length + 1
  | [] => Nat.le_refl _
  | (g, u) :: r => by
    show ((if g = f then (g, v) :: r else (g, u) :: putF f v r) : List (Str × V)).length ≤ r.length + 1 + 1
    split
    · simp
    · have := putF_len f v r
      simp
      omega
theorem ok_tinit {f : Addr} {fd : FuncData} (F : Fun K "__init__" "Talk.__init__" s_Talk_init f fd) (T : Txt K mg ad) : FnOk P w K mg base CX0 1 f fd ["self", "known", "parts", "secrets"] (spTInit ad.CT) := by
  refine F.ok scTI (fun vs H Q E h => ?_) (fun cdv A outer s H vs Q E hr h => ?_)
  · obtain ⟨x, k, q, s, dx, rfl, _⟩ := h
    rfl
  · obtain ⟨x, k, q, s, dx, rfl, hx, kk⟩ := h
    refine ⟨_, pss_cons (ps_fld (pv 0) (pv 1) rfl) (pss_cons (ps_fld (pv 0) (pv 2) rfl) (pss_one (ps_fld (pv 0) (pv 3) rfl))), ?_⟩
    refine ⟨_, rfl, _, rfl, x, ad.CT, dx, [], rfl, hx, T.clT, T.nKn, (by show 0 < 1000; decide), _, rfl, _, rfl, x, ad.CT, dx, _, rfl, upd_same, T.clT, T.nPa, (by show 1 < 1000; decide), _, rfl, _, rfl, x, ad.CT, dx, _, rfl, upd_same, T.clT, T.nSe, ?_, ?_⟩
    · have h1 := putF_len "parts" (V.ref q) (putF "known" (V.ref k) [])
      have h2 := putF_len "known" (V.ref k) []
      have h3 : ([] : List (Str × V)).length = 0 := rfl
      omega
    · exact kk _ upd_same fun b o e hb => by rw [upd_ne hb, upd_ne hb, upd_ne hb]; exact e
/-! ### read_talk -/
def spRead (K : PySem.W.Frag) (CT XL XN : Addr) : Sp := fun vs H Q E => ∃ (l : Addr) (b : List Nat), vs = [.ref l] ∧ SqL K H l (bV b) ∧ (512 < b.length → ∀ H', E (.ref XL) none H') ∧ (b.length ≤ 512 → tk b = none → ∀ H', E (.ref XN) none H') ∧
  (b.length ≤ 512 → ∀ t, tk b = some t → ∀ (x dx k q s : Addr) (H' : Hp), H' x = some (.ins CT dx (tlF k q s)) → TermsAt H' k t.known → PartsAt H' q t.parts → TermsAt H' s t.secrets → Same H H' → Q (.ref x) H')
theorem scRd : FnScope ["talk", "reader", "known", "parts", "secrets"] ["talk"] (defScope s_read_talk) := ⟨rfl, rfl, rfl, by decide +kernel, rfl, by decide +kernel, by decide +kernel⟩
theorem ok_read {f fR fW fP fA fI : Addr} {fd fdR fdW fdP fdA fdI : FuncData} (F : Fun K "read_talk" "read_talk" s_read_talk f fd) (T : Txt K mg ad)
    (MR : Mk K ad.CR fR) (GR : FnOk P w K mg base CX0 1 fR fdR ["self", "numbers"] (spRInit ad.CR)) (bR : Binds K fdR ["self", "numbers"] [])
    (GW : FnOk P w K mg base (CXe P w) 4 fW fdW ["reader", "most"] (spWhole K ad.CR ad.XN)) (bW : Binds K fdW ["reader", "most"] []) (mgW : mg "take_whole_terms" = some (.ref fW)) (kW : PySem.W.keepIn K (.ref fW) = true)
    (GP : FnOk P w K mg base (CXe P w) 5 fP fdP ["reader"] (spParts K ad.CR ad.XN)) (bP : Binds K fdP ["reader"] []) (mgP : mg "take_parts" = some (.ref fP)) (kP : PySem.W.keepIn K (.ref fP) = true)
    (GA : FnOk P w K mg base CX0 1 fA fdA ["self"] (spAtEnd K ad.CR)) (bA : Binds K fdA ["self"] []) (mA : Meth K ad.CR "at_end" fA)
    (MT : Mk K ad.CT fI) (GI : FnOk P w K mg base CX0 1 fI fdI ["self", "known", "parts", "secrets"] (spTInit ad.CT)) (bI : Binds K fdI ["self", "known", "parts", "secrets"] []) :
    FnOk P w K mg base (CXe P w) 6 f fd ["talk"] (spRead K ad.CT ad.XL ad.XN) := by
  obtain ⟨t1, hMB⟩ := T.kMB
  obtain ⟨t2, hMK⟩ := T.kMK
  obtain ⟨t3, hMS⟩ := T.kMS
  refine F.okE scRd (fun vs H Q E h => ?_) (fun cdv A outer s H vs Q E hr h => ?_)
  · obtain ⟨l, b, rfl, _⟩ := h
    rfl
  · obtain ⟨l, b, rfl, hS, kL, kn, ks⟩ := h
    have hr4 : Room 4 _ := hr.mono (by decide)
    have hr2 : Room 2 _ := hr.mono (by decide)
    have hr1 : Room 1 _ := hr.mono (by decide)
    refine ⟨_, pss_cons (ps_if (pt_cmpR op_gt (pe_callB call_len_seq (by rfl) T.len PySem.boot_len (pa_cons (pv 0) pa_nil)) (pe_gi hMB) (nomark _)) (pss_one (ps_raise (by rfl) T.mgL T.exL)) pss_nil)
      (pss_cons (ps_set (i := 1) scRd.nd rfl (Or.inl rfl) (pe_make MR GR hr2 (by rfl) T.mgR bR .nil pass0 (pa_cons (pv 0) pa_nil)))
      (pss_cons (ps_set (i := 2) scRd.nd rfl (Or.inl rfl) (pe_call GW hr4 (by rfl) mgW kW bW .nil passE (pa_cons (pv 1) (pa_cons (pe_gi hMK) pa_nil))))
      (pss_cons (ps_set (i := 3) scRd.nd rfl (Or.inl rfl) (pe_call GP hr (by rfl) mgP kP bP .nil passE (pa_cons (pv 1) pa_nil)))
      (pss_cons (ps_set (i := 4) scRd.nd rfl (Or.inl rfl) (pe_call GW hr4 (by rfl) mgW kW bW .nil passE (pa_cons (pv 1) (pa_cons (pe_gi hMS) pa_nil))))
      (pss_cons (ps_if (pt_not (pt_truth (pe_meth0 (pv 1) T.clR mA GA hr1 bA .nil pass0) (fun _ => rfl))) (pss_one (ps_raise (by rfl) T.mgN T.exN)) pss_nil)
      (pss_one (ps_ret (pe_make MT GI hr2 (by rfl) T.mgT bI .nil pass0 (pa_cons (pv 2) (pa_cons (pv 3) (pa_cons (pv 4) pa_nil))))))))))), ?_⟩
    refine ⟨_, rfl, l, _, rfl, .inl hS, _, _, rfl, rfl, _, rfl, ?_⟩
    rw [bV_length]
    by_cases h5 : 512 < b.length
    · rw [decide_eq_true (by omega : (512 : Int) < (b.length : Int))]
      exact iteT (kL h5 _)
    rw [decide_eq_false (by omega : ¬ (512 : Int) < (b.length : Int))]
    refine iteF ?_
    have hb5 : b.length ≤ 512 := by omega
    have kn := kn hb5
    have ks := ks hb5
    unfold tk at kn ks
    -- reader = Reader(talk)
    refine ⟨_, rfl, fun p dp np ndp nep => ?_⟩
    refine ⟨p, l, dp, rfl, upd_same, fun H1 R1 B1 => ⟨rfl, ?_⟩⟩
    have s1 : Same H H1 := Same.made np ndp B1
    have hS1 := s1.seq hS
    have dr0 : b.drop 0 = b := rfl
    -- known
    refine ⟨_, rfl, p, l, 0, 8, b, rfl, R1, hS1, Nat.zero_le _, hb5, (by decide), fun z => kn ?_, fun kts r1 e1 ka j1 H2 ej1 hj1 R2 B2 hka tk2 => ?_⟩
    · rw [dr0] at z
      rw [z]
      rfl
    rw [dr0] at e1
    rw [e1] at kn ks
    obtain ⟨dx1, hp1⟩ := id R1
    obtain ⟨dx2, hp2⟩ := id R2
    have hS2 := B2.seq hp1 hS1
    -- parts
    refine ⟨_, rfl, p, l, j1, b, rfl, R2, hS2, hj1, hb5, fun z => kn ?_, fun pss r2 e2 pa j2 H3 ej2 hj2 R3 B3 hpa pa3 => ?_⟩
    · rw [ej1] at z
      show (Sa91.counted 1 4 pt r1).bind _ = none
      rw [z]
      rfl
    rw [ej1] at e2
    have kn : ((Sa91.counted 1 4 pt r1).bind fun p => (Sa91.counted 0 4 wt p.2).bind fun s => if s.2 = [] then some (⟨kts, p.1, s.1⟩ : Sa91.Talk) else none) = none → _ := kn
    have ks : ∀ t, ((Sa91.counted 1 4 pt r1).bind fun p => (Sa91.counted 0 4 wt p.2).bind fun s => if s.2 = [] then some (⟨kts, p.1, s.1⟩ : Sa91.Talk) else none) = some t → _ := ks
    rw [e2] at kn ks
    obtain ⟨dx3, hp3⟩ := id R3
    have hS3 := B3.seq hp2 hS2
    -- secrets
    refine ⟨_, rfl, p, l, j2, 4, b, rfl, R3, hS3, hj2, hb5, (by decide), fun z => kn ?_, fun sts r3 e3 sa j3 H4 ej3 hj3 R4 B4 hsa sa4 => ?_⟩
    · rw [ej2] at z
      show (Sa91.counted 0 4 wt r2).bind _ = none
      rw [z]
      rfl
    rw [ej2] at e3
    have kn : ((Sa91.counted 0 4 wt r2).bind fun s => if s.2 = [] then some (⟨kts, pss, s.1⟩ : Sa91.Talk) else none) = none → _ := kn
    have ks : ∀ t, ((Sa91.counted 0 4 wt r2).bind fun s => if s.2 = [] then some (⟨kts, pss, s.1⟩ : Sa91.Talk) else none) = some t → _ := ks
    rw [e3] at kn ks
    have kn : (if r3 = [] then some (⟨kts, pss, sts⟩ : Sa91.Talk) else none) = none → _ := kn
    have ks : ∀ t, (if r3 = [] then some (⟨kts, pss, sts⟩ : Sa91.Talk) else none) = some t → _ := ks
    obtain ⟨dx4, hp4⟩ := id R4
    have hS4 := B4.seq hp3 hS3
    -- if not reader.at_end()
    refine ⟨_, rfl, p, dx4, _, rfl, hp4, rdF_no _ _ (by decide +kernel) (by decide +kernel), p, l, j3, _, rfl, R4, hS4, _, rfl, ?_⟩
    rw [bV_length, decV]
    by_cases hend : j3 = b.length
    · rw [decide_eq_true hend]
      refine iteF ?_
      have er : r3 = [] := by rw [← ej3, hend, List.drop_length]
      rw [if_pos er] at ks
      -- return Talk(known, parts, secrets)
      refine ⟨_, rfl, _, rfl, _, rfl, fun x dx nx ndx nex => ?_⟩
      refine ⟨x, ka, pa, sa, dx, rfl, upd_same, fun H5 hx5 B5 => ⟨rfl, ?_⟩⟩
      have s5 : Same H4 H5 := Same.made nx ndx B5
      have st2 : Stay H2 H5 := ⟨fun a xs e => s5 a _ ((B4.stay hp3).1 a xs ((B3.stay hp2).1 a xs e)), fun a xs e => s5 a _ ((B4.stay hp3).2 a xs ((B3.stay hp2).2 a xs e))⟩
      have st3 : Stay H3 H5 := ⟨fun a xs e => s5 a _ ((B4.stay hp3).1 a xs e), fun a xs e => s5 a _ ((B4.stay hp3).2 a xs e)⟩
      have np0 : H p = none := np
      refine ks ⟨kts, pss, sts⟩ rfl x dx ka pa sa H5 hx5 (tk2.stay st2) (pa3.stay st3) (sa4.stay (Stay.ofSame s5)) fun c o e => ?_
      have nc : c ≠ p := ne_of_none e np0
      exact s5 c o (B4 c o (B3 c o (B2 c o (s1 c o e) nc) nc) nc)
    · rw [decide_eq_false hend]
      refine iteT (kn ?_ _)
      rw [if_neg]
      intro z
      rw [z] at ej3
      have := congrArg List.length ej3
      rw [List.length_drop] at this
      have z2 : ([] : List Nat).length = 0 := rfl
      omega
end
end Tw

set_option maxRecDepth 100000
set_option linter.all false
set_option maxHeartbeats 4000000
namespace Tw
open PySem L2
structure TxtD (K : PySem.W.Frag) (mg : Str → Option Value) (a : Adr) : Prop where
  mgO : mg "OutOfBounds" = some (.ref a.XO)
  mgM : mg "MoreThanMost" = some (.ref a.XM)
  mgW : mg "NoWay" = some (.ref a.XW)
  mgT : mg "NoTerm" = some (.ref a.XT)
  kOB : ∃ t, mg "OUT_OF_BOUNDS" = some (.int (-2) t)
  kNT : ∃ t, mg "NO_TALK" = some (.int (-3) t)
  kMM : ∃ t, mg "MORE_THAN_MOST" = some (.int (-4) t)
  kNW : ∃ t, mg "NO_WAY" = some (.int (-5) t)
  kNR : ∃ t, mg "NO_TERM" = some (.int (-6) t)
  ap : Apart K [a.XL, a.XN, a.XO, a.XM, a.XW, a.XT]
/-- a list with one number is given back -/
def One (Q : VK) (n : Int) : Prop := ∀ (q : Addr) (H' : Hp), H' q = some (.lst [V.int n]) → Q (.ref q) H'
/-- what is answered of an error -/
def ErrTo (ad : Adr) (Q : VK) : XK := fun cls _ _ => ∃ p ∈ [(ad.XL, (-2 : Int)), (ad.XN, -3), (ad.XO, -2), (ad.XM, -4), (ad.XW, -5), (ad.XT, -6)], cls = .ref p.1 ∧ One Q p.2
def spAns (K : PySem.W.Frag) (ad : Adr) (fL : Addr) (lsp : Sp) : Sp := fun vs H Q _ => ∃ (l : Addr) (b : List Nat), vs = [.ref l, .ref fL] ∧ SqL K H l (bV b) ∧ FnFrz H fL ∧ (512 < b.length → One Q (-2)) ∧ (b.length ≤ 512 → tk b = none → One Q (-3)) ∧
  (b.length ≤ 512 → ∀ t, tk b = some t → ∀ (x dx k q s : Addr) (H' : Hp), H' x = some (.ins ad.CT dx (tlF k q s)) → TermsAt H' k t.known → PartsAt H' q t.parts → TermsAt H' s t.secrets → Same H H' → lsp [.ref x] H' Q (ErrTo ad Q))
section
variable {P : Program} {w : World} {K : PySem.W.Frag} {mg : Str → Option Value} {base : Heap} {ad : Adr}
theorem scAn : FnScope ["talk", "reply"] ["talk", "reply"] (defScope s_answer) := ⟨rfl, rfl, rfl, by decide +kernel, rfl, by decide +kernel, by decide +kernel⟩
theorem ok_answer {f fR fL : Addr} {fd fdR fdL : FuncData} {n kL : Nat} {lsp : Sp} (F : Fun K "answer" "answer" s_answer f fd) (T : Txt K mg ad) (D : TxtD K mg ad)
    (GR : FnOk P w K mg base (CXe P w) 6 fR fdR ["talk"] (spRead K ad.CT ad.XL ad.XN)) (bR : Binds K fdR ["talk"] []) (mgR : mg "read_talk" = some (.ref fR)) (kR : PySem.W.keepIn K (.ref fR) = true)
    (GL : FnOk P w K mg base (CXe P w) kL fL fdL ["found"] lsp) (bL : Binds K fdL ["found"] []) (h6 : 6 ≤ n) (hL : kL ≤ n) (mono : ∀ vs H Q E E', (∀ c o H', E c o H' → E' c o H') → lsp vs H Q E → lsp vs H Q E') :
    FnOk P w K mg base CX0 (n + 1) f fd ["talk", "reply"] (spAns K ad fL lsp) := by
  obtain ⟨t1, hOB⟩ := D.kOB
  obtain ⟨t2, hNT⟩ := D.kNT
  obtain ⟨t3, hMM⟩ := D.kMM
  obtain ⟨t4, hNW⟩ := D.kNW
  obtain ⟨t5, hNR⟩ := D.kNR
  refine F.ok scAn (fun vs H Q E h => ?_) (fun cdv A outer s H vs Q E hr h => ?_)
  · obtain ⟨l, b, rfl, _⟩ := h
    rfl
  · obtain ⟨l, b, rfl, hS, hF, k2, k3, kk⟩ := h
    refine ⟨_, pss_one (ps_tryN rfl rfl rfl rfl rfl
        (fun E' pn Et hx => pss_one (ps_ret (pe_callL (i := 1) GL (hr.mono hL) rfl (Or.inl rfl) bL hx (pa_cons (pe_call GR (hr.mono h6) (by rfl) mgR kR bR .nil hx (pa_cons (pv 0) pa_nil)) pa_nil))))
        (.cons (by rfl) T.mgL (fun e => pss_one (ps_ret (pe_lst (pa_cons (pe_gi hOB) pa_nil))))
        (.cons (by rfl) T.mgN (fun e => pss_one (ps_ret (pe_lst (pa_cons (pe_gi hNT) pa_nil))))
        (.cons (by rfl) D.mgO (fun e => pss_one (ps_ret (pe_lst (pa_cons (pe_gi hOB) pa_nil))))
        (.cons (by rfl) D.mgM (fun e => pss_one (ps_ret (pe_lst (pa_cons (pe_gi hMM) pa_nil))))
        (.cons (by rfl) D.mgW (fun e => pss_one (ps_ret (pe_lst (pa_cons (pe_gi hNW) pa_nil))))
        (.cons (by rfl) D.mgT (fun e => pss_one (ps_ret (pe_lst (pa_cons (pe_gi hNR) pa_nil)))) .nil (by decide)) (by decide)) (by decide)) (by decide)) (by decide)) (by decide))
        D.ap ⟨_, _, rfl⟩), ?_⟩
    have one : ∀ (n : Int) (H1 : Hp), One Q n → (1 ≤ sizeLine ∧ ∀ p, H1 p = none → Q (.ref p) (upd H1 p (.lst [V.int n]))) := fun n H1 h => ⟨by decide, fun p _ => h p _ upd_same⟩
    refine ⟨rfl, hF, _, rfl, l, b, rfl, hS, fun h5 H' => ⟨_, List.mem_cons_self, rfl, one (-2) H' (k2 h5)⟩, fun h5 hn H' => ⟨_, List.mem_cons_of_mem _ List.mem_cons_self, rfl, one (-3) H' (k3 h5 hn)⟩, fun h5 t ht x dx ka pa sa H1 hx tk1 pa1 sa1 s1 => ?_⟩
    have hF1 : FnFrz H1 fL := by
      obtain ⟨o, fd2, u, e, d⟩ := hF
      exact ⟨o, fd2, u, s1 _ _ e, d⟩
    refine ⟨hF1, mono _ _ _ _ _ (fun c o H2 hc => ?_) (kk h5 t ht x dx ka pa sa H1 hx tk1 pa1 sa1 s1)⟩
    obtain ⟨p, hp, rfl, ho⟩ := hc
    rcases List.mem_cons.mp hp with rfl | hp
    · exact ⟨_, List.mem_cons_self, rfl, one _ H2 ho⟩
    rcases List.mem_cons.mp hp with rfl | hp
    · exact ⟨_, List.mem_cons_of_mem _ List.mem_cons_self, rfl, one _ H2 ho⟩
    rcases List.mem_cons.mp hp with rfl | hp
    · exact ⟨_, List.mem_cons_of_mem _ (List.mem_cons_of_mem _ List.mem_cons_self), rfl, one _ H2 ho⟩
    rcases List.mem_cons.mp hp with rfl | hp
    · exact ⟨_, List.mem_cons_of_mem _ (List.mem_cons_of_mem _ (List.mem_cons_of_mem _ List.mem_cons_self)), rfl, one _ H2 ho⟩
    rcases List.mem_cons.mp hp with rfl | hp
    · exact ⟨_, List.mem_cons_of_mem _ (List.mem_cons_of_mem _ (List.mem_cons_of_mem _ (List.mem_cons_of_mem _ List.mem_cons_self))), rfl, one _ H2 ho⟩
    rcases List.mem_cons.mp hp with rfl | hp
    · exact ⟨_, List.mem_cons_of_mem _ (List.mem_cons_of_mem _ (List.mem_cons_of_mem _ (List.mem_cons_of_mem _ (List.mem_cons_of_mem _ List.mem_cons_self)))), rfl, one _ H2 ho⟩
    · cases hp
end
end Tw

set_option maxRecDepth 100000
set_option linter.all false
set_option maxHeartbeats 4000000
namespace L2
open PySem PySem.Spec PyProof.Rows PySem.W
/-! ### a def that hands a lambda on: return f(x, lambda y: ..) -/
def lamOf (st : Stmt) : Arguments × Expr × Scope × Pos := match defBody st with
  | [.Return (some (.Call _ [_, .Lambda a b sc p] _ _)) _] => (a, b, sc, p)
  | _ => ({ posonlyargs := [], args := [], vararg := none, kwonlyargs := [], kw_defaults := [], kwarg := none, defaults := [] }, .Constant .none 0 ⟨0, 0, 0, 0⟩, { kind := .function, names := [], isGenerator := false, isCoroutine := false }, ⟨0, 0, 0, 0⟩)
abbrev lamArgs (st : Stmt) : Arguments := (lamOf st).1
abbrev lamBody (st : Stmt) : Expr := (lamOf st).2.1
abbrev lamScope (st : Stmt) : Scope := (lamOf st).2.2.1
theorem FnOk.ex {ι : Type} {P : Program} {w : World} {K : PySem.W.Frag} {mg : Str → Option Value} {base : Heap} {CX : CXT} {k : Nat} {f : Addr} {fd : FuncData} {ps : List Str} {sp : ι → Sp} (F : ∀ i, FnOk P w K mg base CX k f fd ps (sp i)) :
    FnOk P w K mg base CX k f fd ps (fun vs H Q E => ∃ i, sp i vs H Q E) :=
  ⟨fun vs H Q E ⟨i, h⟩ => (F i).len vs H Q E h, fun A outer s H args us vs Q E hr he hb hv ⟨i, h⟩ => (F i).run A outer s H args us vs Q E hr he hb hv h⟩
theorem no_free {sc : Scope} {cl : List (Str × Addr)} (h : (sc.names.all fun y => y.2 != .free) = true) : ∀ y, sc.names.lookup y = some .free → ∃ c, cl.lookup y = some c := fun y e => by
  have := List.all_eq_true.mp h _ (PySem.mem_of_lookup e)
  exact absurd (show (NameKind.free != NameKind.free) = true from this) (by decide)
theorem codeHd_mk {K : Frag} {c P : Addr} {od : Option Addr} {vs : Array Value} {sl : Array (Option Value)} {s18 : Str} {i7 i10 : Int} {b9 : Bool} {t18 t7 t10 : Tok} (l : K.lookup c = some ⟨.type "code", od, .fields vs, sl⟩) (p : vs[11]? = some (.ref P)) (q18 : vs.getD 18 .none = .str s18 t18)
    (q7 : vs.getD 7 .none = .int i7 t7) (q9 : vs.getD 9 .none = .bool b9) (q10 : vs.getD 10 .none = .int i10 t10) (ne : (c != P) = true) : codeHdIn K c P = true := by
  unfold codeHdIn
  rw [l]
  split
  · rename_i vs2 sl2 e
    cases e
    rw [p, q18, q7, q9, q10, ne]
    simp
  · rename_i hne
    exact absurd rfl (hne _ _ _)
theorem tabIn_mk {K : Frag} {x : Str} {f c P : Addr} {oc : Value} {od od2 : Option Addr} {fd : FuncData} {sl sl2 : Array (Option Value)} {vs : Array Value} {cl : Value} (a : nsIn K mainGlobals x = some (some (.ref f))) (lf : K.lookup f = some ⟨oc, od, .func fd, sl⟩) (hc : fd.code = .ref c)
    (l : K.lookup c = some ⟨cl, od2, .fields vs, sl2⟩) (p : vs[11]? = some (.ref P)) : tabIn K x = some (c, P) := by
  unfold tabIn
  rw [a]
  dsimp only
  rw [lf]
  dsimp only
  rw [hc]
  dsimp only
  rw [l]
  dsimp only
  rw [p]
theorem unt_nil (H : Hp) : unt [] H = H := funext fun b => unt_out (by simp)
theorem retr_nil (H0 H : Hp) : retr [] H0 H = H := funext fun b => retr_out (by simp)
end L2

set_option maxRecDepth 100000
set_option linter.all false
set_option maxHeartbeats 4000000
namespace Tw
open PySem L2 PySem.W
def ans (b : List Nat) : Int := if 512 < b.length then -2 else match tk b with
  | none => -3
  | some t => ((Sa91.size t : Nat) : Int)
theorem answer_check (b : List Nat) : Sa91.answer (.check b) = if 512 < b.length then Sa91.only (-2) else match Sa91.talk b with
    | none => Sa91.only (-3)
    | some t => Sa91.only (Sa91.nat (Sa91.size t)) := rfl
theorem check_ans (ns : List Int) : PySa91.check ns = [ans (ns.map Int.toNat)] := by
  show (Sa91.answer (.check (ns.map Int.toNat))).v :: Sa91Neutral.ints (Sa91.answer (.check (ns.map Int.toNat))).l = _
  generalize ns.map Int.toNat = b
  rw [answer_check]
  unfold ans
  rw [tk_eq]
  by_cases h : 512 < b.length
  · rw [if_pos h, if_pos h]
    rfl
  · rw [if_neg h, if_neg h]
    cases Sa91.talk b <;> rfl
theorem sum_len : ∀ ps : List (List Sa91.Event), (ps.map fun es => ((es.length : Nat) : Int)).sum = (((ps.map List.length).sum : Nat) : Int)
  | [] => rfl
  | p :: r => by
    rw [List.map_cons, List.map_cons, List.sum_cons, List.sum_cons, sum_len r]
    omega
abbrev lqual : Str := ("check" : Str) ++ ".<locals>." ++ "<lambda>"
abbrev lobj (pm : Value) (c' : Addr) (ctv : Value) : Obj := kla_obj "<lambda>" lqual (lamArgs s_check) (lamBody s_check) (lamScope s_check) [] pm c' ctv
def lspCk (ad : Adr) (pm : Value) (f c' : Addr) (ctv : Value) : Sp := fun vs H Q _ => LamAt H f c' (lobj pm c' ctv) lqual [] [] ∧ ∃ (x dx k q s : Addr) (ps : List (List Sa91.Event)), vs = [.ref x] ∧ H x = some (.ins ad.CT dx (tlF k q s)) ∧ PartsAt H q ps ∧ ps.length ≤ 4 ∧ One Q (((ps.map List.length).sum : Nat) : Int)
def spCk (K : PySem.W.Frag) (Pt : Addr) : Sp := fun vs H Q _ => ∃ (l : Addr) (b : List Nat), vs = [.ref l] ∧ SqL K H l (bV b) ∧ H Pt = some (.tbl #[]) ∧ One Q (ans b)
section
variable {P : Program} {w : World} {K : PySem.W.Frag} {mg : Str → Option Value} {base : Heap} {ad : Adr}
theorem scLm : LamScope ["found", "events"] ["found"] [] ["events"] [] (lamScope s_check) := ⟨rfl, rfl, rfl, by decide +kernel, rfl, by decide +kernel, by decide +kernel, no_free (by decide +kernel), fun y hy => (nomatch hy), fun x y c h => (nomatch h)⟩
theorem blkLm : BlkOk ["found", "events"] (lamScope s_check) { kind := .function, names := [(".0", .local), ("events", .local), ("len", .globalImplicit)], isGenerator := false, isCoroutine := false } [("events", 1)] :=
  ⟨rfl, by decide +kernel, by decide +kernel, by decide +kernel, by decide +kernel⟩
theorem call_lenK {X : Cx} (K : PySem.W.Frag) (hK : X.K = K := by rfl) : CallR X (.builtin "len") (fun xs H Q => ∃ p ys, xs = [V.ref p] ∧ (SqL K H p ys ∨ SqT K H p ys) ∧ Q (.int ys.length) H) := by
  subst hK
  exact call_len_seq
theorem ok_lamCk {f c' : Addr} {pm ctv : Value} (T : Txt K mg ad) (hsum : mg "sum" = none) : FnOk P w K mg base (CXe P w) 1 f (kla_fn "<lambda>" lqual (lamArgs s_check) (lamBody s_check) (lamScope s_check) [] pm (.ref c') ctv) ["found"] (lspCk ad pm f c' ctv) := by
  refine lam_of (rest := ["events"]) (fv := []) scLm (fun vs H Q E h => ?_) (fun vs H Q E h => h.1) (fun A outer s H vs Q E hr hok frf h => ?_)
  · obtain ⟨_, x, dx, k, q, s, ps, rfl, _⟩ := h
    rfl
  · obtain ⟨L, x, dx, k, q, s, ps, rfl, hx, hp, h4, one⟩ := h
    refine ⟨_, pe_lst (pa_cons (pe_callB (cr_sum rfl) (by rfl) hsum PyProof.Rows.boot_sum (pa_cons (pe_lc (own := [("events", 1)]) rfl scLm.nd (pi_list (pe_fld (pv 0) rfl)) blkLm
        (fun _ _ _ _ _ => pg_name (i := 1) scLm.nd rfl (Or.inl rfl)) (fun _ _ _ _ _ => pts_nil) (fun _ _ _ _ _ => pe_callB (call_lenK K) (by rfl) T.len PySem.boot_len (pa_cons (pv 1) pa_nil))) pa_nil)) pa_nil), ?_⟩
    show tLst _ _ (unt [] H) (fun v H' => Q v (retr [] H H'))
    rw [unt_nil]
    obtain ⟨as, hla, pr⟩ := hp
    have hlen : as.length = ps.length := Paired.length pr
    refine ⟨_, rfl, x, ad.CT, dx, _, _, rfl, hx, T.clT, T.nPa, tlF_parts _ _ _, q, rfl, ⟨_, SqL.of hla⟩, fun D hD => ?_⟩
    refine lc_list (K := K) (a := q) (xs := as.map V.ref) (fun n H2 => H2 D = some (.lst ((ps.take n).map fun es => V.int ((es.length : Nat) : Int))) ∧ Same H H2) ⟨upd_same, fun c o e => by rw [upd_ne (ne_of_none e hD)]; exact e⟩ (fun n H2 _ ⟨_, s2⟩ => SqL.of (s2 q _ hla)) ?_ ?_
    · rintro n y H2 hy ⟨hD2, s2⟩
      obtain ⟨a, ha, rfl⟩ := ref_at hy
      obtain ⟨es, hes, bs, hb1, hb2⟩ := paired_get pr ha
      refine ⟨rfl, ?_⟩
      unfold tYes
      dsimp only
      rw [if_pos rfl]
      refine ⟨_, rfl, a, _, rfl, .inl (SqL.of (s2 a _ hb1)), ?_⟩
      have hbl : bs.length = es.length := Paired.length hb2
      refine ⟨_, hD2, ?_, ?_, fun c o e => ?_⟩
      · refine small1000 ?_
        rw [List.length_map, List.length_take]
        omega
      · rw [upd_same, List.take_add_one, hes, List.map_append, List.length_map, hbl]
        rfl
      · rw [upd_ne (ne_of_none e hD)]
        exact s2 c o e
    · rintro H2 ⟨hD2, s2⟩
      rw [List.length_map, hlen, List.take_length] at hD2
      have e : (ps.map fun es => V.int ((es.length : Nat) : Int)) = (ps.map fun es => ((es.length : Nat) : Int)).map V.int := by
        rw [List.map_map]
        rfl
      rw [e] at hD2
      refine ⟨D, _, rfl, SqL.of hD2, (by show 1 ≤ sizeLine; decide), fun z hz => ?_⟩
      show Q (.ref z) (retr [] H _)
      rw [retr_nil]
      refine one z _ ?_
      rw [upd_same, sum_len]
theorem scCk : FnScope ["talk"] ["talk"] (defScope s_check) := ⟨rfl, rfl, rfl, by decide +kernel, rfl, by decide +kernel, by decide +kernel⟩
theorem ok_check {f fA c Pt : Addr} {fdA : FuncData} {oc kV doc pm ct : Value} {od an : Option Addr} {osl : Array (Option Value)} (lk : K.lookup f = some ⟨oc, od, .func (PySem.W.fnOf "check" "check" (defArgs s_check) (defBody s_check) (defScope s_check) .none kV doc pm an (.ref c) ct), osl⟩) (hcd : PySem.W.codeIn K (.ref c) "check" = true)
    (T : Txt K mg ad) (C : codeHdIn K c Pt = true) (KX : K.In base) (hB : base.BuiltinsAt mg Pt)
    (GA : ∀ (fL c' : Addr) (ctv : Value), FnOk P w K mg base CX0 7 fA fdA ["talk", "reply"] (spAns K ad fL (lspCk ad ((mg "__name__").getD .none) fL c' ctv))) (bA : Binds K fdA ["talk", "reply"] []) (mgA : mg "answer" = some (.ref fA)) (kA : PySem.W.keepIn K (.ref fA) = true) :
    FnOk P w K mg base CX0 8 f (PySem.W.fnOf "check" "check" (defArgs s_check) (defBody s_check) (defScope s_check) .none kV doc pm an (.ref c) ct) ["talk"] (spCk K Pt) := by
  have CH : CodeHd base c Pt := codeHd_of_K KX C
  have GA' : FnOk P w K mg base CX0 7 fA fdA ["talk", "reply"] (fun vs H Q E => ∃ i : Addr × Addr × Value, spAns K ad i.1 (lspCk ad ((mg "__name__").getD .none) i.1 i.2.1 i.2.2) vs H Q E) := FnOk.ex fun i => GA i.1 i.2.1 i.2.2
  refine fn_of lk hcd scCk (fun vs H Q E h => ?_) (fun A outer s H vs Q E hr h => ?_)
  · obtain ⟨l, b, rfl, _⟩ := h
    rfl
  · obtain ⟨l, b, rfl, hS, hP, one⟩ := h
    refine ⟨_, pss_one (ps_ret (pe_callC (E := E0) GA' hr (by rfl) mgA kA bA rfl (fun x c h => (nomatch h)) (by exact List.nodup_nil) (fun _ _ _ _ h => h) (pa_cons (pv 0) (pa_cons (pe_lam (clos := []) rfl CH hB rfl rfl) pa_nil)))), ?_⟩
    refine ⟨_, rfl, #[], hP, trivial, rfl, fun fL c' oc ctv more hf hc' nfc hcode => ⟨fun x c h => (nomatch h), fun Hc hout hin cv => ?_⟩⟩
    have eH : Hc = upd (upd (upd H Pt (.tbl (#[] ++ more))) c' (.frz oc (.own c'))) fL (.frz (lobj ((mg "__name__").getD .none) c' ctv) (.own fL)) := funext fun b => hout b (fun z => absurd (show b ∈ ([] : List Addr) from z) (by simp))
    have hPf : Pt ≠ fL := ne_of_none hP hf
    have hPc : Pt ≠ c' := ne_of_none hP hc'
    have kH : ∀ b o, H b = some o → b ≠ Pt → Hc b = some o := fun b o e n => by
      rw [eH, upd_ne (ne_of_none e hf), upd_ne (ne_of_none e hc'), upd_ne n]
      exact e
    have LA : LamAt Hc fL c' (lobj ((mg "__name__").getD .none) c' ctv) lqual [] [] := by
      refine ⟨by rw [eH, upd_same], ⟨oc, by rw [eH, upd_ne (Ne.symm nfc), upd_same], hcode⟩, fun x c h => (nomatch h)⟩
    have hSc : SqL K Hc l (bV b) := by
      rcases hS with (h | ⟨o, h⟩) | h
      · exact .inl (.inl (kH _ _ h (ne_of h hP (by intro z; cases z))))
      · exact .inl (.inr ⟨o, kH _ _ h (ne_of h hP (by intro z; cases z))⟩)
      · exact .inr h
    have one' : ∀ n : Int, ans b = n → One (fun v H' => Q v (unt [] H')) n := fun n e q H' h => by
      show Q (.ref q) (unt [] H')
      rw [unt_nil]
      exact one q H' (by rw [e]; exact h)
    refine ⟨(fL, c', ctv), l, b, rfl, hSc, ⟨_, _, _, LA.fn, rfl⟩, fun h5 => one' _ ?_, fun h5 hn => one' _ ?_, fun h5 t ht x dx ka pa sa H1 hx tk1 pa1 sa1 s1 => ?_⟩
    · unfold ans
      rw [if_pos h5]
    · unfold ans
      rw [if_neg (by omega), hn]
    · refine ⟨LA.kept fun b o u e => s1 b _ e, x, dx, ka, pa, sa, t.parts, rfl, hx, pa1, tk_parts ht, one' _ ?_⟩
      unfold ans
      rw [if_neg (by omega), ht]
      rfl
end
end Tw

set_option maxRecDepth 100000
set_option linter.all false
set_option maxHeartbeats 4000000
namespace Tw
open PySem L2
theorem all_mk {pg : Program} {w : World} {K : PySem.W.Frag} {h : Heap} {mg : Str → Option Value} {fa : Addr} (X : K.In h) (G : h.Ns mainGlobals mg) (hfa : mg "check" = some (.ref fa))
    {CT CR XL XN XO XM XW XT IT f_tinit f_rinit f_atend f_take f_term f_heads f_unk f_whole f_part f_parts f_read f_answer f_check cMain Pt : Addr}
    {oc_tinit kV_tinit dc_tinit pm_tinit ct_tinit cd_tinit oc_rinit kV_rinit dc_rinit pm_rinit ct_rinit cd_rinit oc_atend kV_atend dc_atend pm_atend ct_atend cd_atend oc_take kV_take dc_take pm_take ct_take cd_take oc_term kV_term dc_term pm_term ct_term cd_term oc_heads kV_heads dc_heads pm_heads ct_heads cd_heads oc_unk kV_unk dc_unk pm_unk ct_unk cd_unk oc_whole kV_whole dc_whole pm_whole ct_whole cd_whole oc_part kV_part dc_part pm_part ct_part cd_part oc_parts kV_parts dc_parts pm_parts ct_parts cd_parts oc_read kV_read dc_read pm_read ct_read cd_read oc_answer kV_answer dc_answer pm_answer ct_answer cd_answer oc_check kV_check dc_check pm_check ct_check : Value} {s18 : Str} {i7 i10 : Int} {b9 : Bool} {vs_code : Array Value}
    {od_tinit an_tinit od_rinit an_rinit od_atend an_atend od_take an_take od_term an_term od_heads an_heads od_unk an_unk od_whole an_whole od_part an_part od_parts an_parts od_read an_read od_answer an_answer od_check an_check od_IT od_code : Option Addr}
    {sl_tinit sl_rinit sl_atend sl_take sl_term sl_heads sl_unk sl_whole sl_part sl_parts sl_read sl_answer sl_check sl_IT sl_code : Array (Option Value)}
    {tk_NAME tk_UNKNOWN tk_GETS tk_ENDS tk_LAST_NAME tk_LAST_UNKNOWN tk_MOST_BYTES tk_MOST_KNOWN tk_MOST_PARTS tk_MOST_EVENTS tk_MOST_SECRETS tk_NOTHING tk_OUT_OF_BOUNDS tk_NO_TALK tk_MORE_THAN_MOST tk_NO_WAY tk_NO_TERM u0 u1 u2 u3 u4 u5 u6 u7 t18 t7 t10 : Tok} {n_IT : Nat}
    (g_CT : PySem.W.nsIn K mainGlobals "Talk" = some (some (.ref CT)))
    (pg_CT : PySem.W.plainGet K CT Str.empty = true)
    (hd_CT : PySem.W.hasDictIn K CT = true)
    (po_CT : PySem.W.plainOver K CT = true)
    (sa_CT : PySem.W.findIn K (.ref CT) "__setattr__" = some (some (.builtin "object.__setattr__")))
    (mk_CT : PySem.W.makesIn K CT = true)
    (kc_CT : PySem.W.keepIn K (.ref CT) = true)
    (n_CT_known : PySem.W.findIn K (.ref CT) "known" = some none)
    (n_CT_parts : PySem.W.findIn K (.ref CT) "parts" = some none)
    (n_CT_secrets : PySem.W.findIn K (.ref CT) "secrets" = some none)
    (g_CR : PySem.W.nsIn K mainGlobals "Reader" = some (some (.ref CR)))
    (pg_CR : PySem.W.plainGet K CR Str.empty = true)
    (hd_CR : PySem.W.hasDictIn K CR = true)
    (po_CR : PySem.W.plainOver K CR = true)
    (sa_CR : PySem.W.findIn K (.ref CR) "__setattr__" = some (some (.builtin "object.__setattr__")))
    (mk_CR : PySem.W.makesIn K CR = true)
    (kc_CR : PySem.W.keepIn K (.ref CR) = true)
    (n_CR_numbers : PySem.W.findIn K (.ref CR) "numbers" = some none)
    (n_CR_place : PySem.W.findIn K (.ref CR) "place" = some none)
    (g_XL : PySem.W.nsIn K mainGlobals "TalkTooLong" = some (some (.ref XL)))
    (ex_XL : PySem.W.excIn K XL bmExc "Exception.__new__" = true)
    (g_XN : PySem.W.nsIn K mainGlobals "NoTalk" = some (some (.ref XN)))
    (ex_XN : PySem.W.excIn K XN bmExc "Exception.__new__" = true)
    (g_XO : PySem.W.nsIn K mainGlobals "OutOfBounds" = some (some (.ref XO)))
    (g_XM : PySem.W.nsIn K mainGlobals "MoreThanMost" = some (some (.ref XM)))
    (g_XW : PySem.W.nsIn K mainGlobals "NoWay" = some (some (.ref XW)))
    (g_XT : PySem.W.nsIn K mainGlobals "NoTerm" = some (some (.ref XT)))
    (m_XL_XL : PySem.W.exmOne K (.ref XL) (.ref XL) = some true)
    (m_XN_XL : PySem.W.exmOne K (.ref XN) (.ref XL) = some false)
    (m_XN_XN : PySem.W.exmOne K (.ref XN) (.ref XN) = some true)
    (m_XO_XL : PySem.W.exmOne K (.ref XO) (.ref XL) = some false)
    (m_XO_XN : PySem.W.exmOne K (.ref XO) (.ref XN) = some false)
    (m_XO_XO : PySem.W.exmOne K (.ref XO) (.ref XO) = some true)
    (m_XM_XL : PySem.W.exmOne K (.ref XM) (.ref XL) = some false)
    (m_XM_XN : PySem.W.exmOne K (.ref XM) (.ref XN) = some false)
    (m_XM_XO : PySem.W.exmOne K (.ref XM) (.ref XO) = some false)
    (m_XM_XM : PySem.W.exmOne K (.ref XM) (.ref XM) = some true)
    (m_XW_XL : PySem.W.exmOne K (.ref XW) (.ref XL) = some false)
    (m_XW_XN : PySem.W.exmOne K (.ref XW) (.ref XN) = some false)
    (m_XW_XO : PySem.W.exmOne K (.ref XW) (.ref XO) = some false)
    (m_XW_XM : PySem.W.exmOne K (.ref XW) (.ref XM) = some false)
    (m_XW_XW : PySem.W.exmOne K (.ref XW) (.ref XW) = some true)
    (m_XT_XL : PySem.W.exmOne K (.ref XT) (.ref XL) = some false)
    (m_XT_XN : PySem.W.exmOne K (.ref XT) (.ref XN) = some false)
    (m_XT_XO : PySem.W.exmOne K (.ref XT) (.ref XO) = some false)
    (m_XT_XM : PySem.W.exmOne K (.ref XT) (.ref XM) = some false)
    (m_XT_XW : PySem.W.exmOne K (.ref XT) (.ref XW) = some false)
    (m_XT_XT : PySem.W.exmOne K (.ref XT) (.ref XT) = some true)
    (a_tinit : PySem.W.findIn K (.ref CT) "__init__" = some (some (.ref f_tinit)))
    (i_tinit : PySem.W.isFn K (.ref f_tinit) = true)
    (l_tinit : K.lookup f_tinit = some ⟨oc_tinit, od_tinit, .func (PySem.W.fnOf "__init__" "Talk.__init__" (defArgs s_Talk_init) (defBody s_Talk_init) (defScope s_Talk_init) .none kV_tinit dc_tinit pm_tinit an_tinit cd_tinit ct_tinit), sl_tinit⟩)
    (c_tinit : PySem.W.codeIn K cd_tinit "Talk.__init__" = true)
    (k_tinit : PySem.W.keepIn K (.ref f_tinit) = true)
    (a_rinit : PySem.W.findIn K (.ref CR) "__init__" = some (some (.ref f_rinit)))
    (i_rinit : PySem.W.isFn K (.ref f_rinit) = true)
    (l_rinit : K.lookup f_rinit = some ⟨oc_rinit, od_rinit, .func (PySem.W.fnOf "__init__" "Reader.__init__" (defArgs s_Reader_init) (defBody s_Reader_init) (defScope s_Reader_init) .none kV_rinit dc_rinit pm_rinit an_rinit cd_rinit ct_rinit), sl_rinit⟩)
    (c_rinit : PySem.W.codeIn K cd_rinit "Reader.__init__" = true)
    (k_rinit : PySem.W.keepIn K (.ref f_rinit) = true)
    (a_atend : PySem.W.findIn K (.ref CR) "at_end" = some (some (.ref f_atend)))
    (i_atend : PySem.W.isFn K (.ref f_atend) = true)
    (l_atend : K.lookup f_atend = some ⟨oc_atend, od_atend, .func (PySem.W.fnOf "at_end" "Reader.at_end" (defArgs s_Reader_at_end) (defBody s_Reader_at_end) (defScope s_Reader_at_end) .none kV_atend dc_atend pm_atend an_atend cd_atend ct_atend), sl_atend⟩)
    (c_atend : PySem.W.codeIn K cd_atend "Reader.at_end" = true)
    (k_atend : PySem.W.keepIn K (.ref f_atend) = true)
    (a_take : PySem.W.findIn K (.ref CR) "take" = some (some (.ref f_take)))
    (i_take : PySem.W.isFn K (.ref f_take) = true)
    (l_take : K.lookup f_take = some ⟨oc_take, od_take, .func (PySem.W.fnOf "take" "Reader.take" (defArgs s_Reader_take) (defBody s_Reader_take) (defScope s_Reader_take) .none kV_take dc_take pm_take an_take cd_take ct_take), sl_take⟩)
    (c_take : PySem.W.codeIn K cd_take "Reader.take" = true)
    (k_take : PySem.W.keepIn K (.ref f_take) = true)
    (a_term : PySem.W.findIn K (.ref CR) "take_term" = some (some (.ref f_term)))
    (i_term : PySem.W.isFn K (.ref f_term) = true)
    (l_term : K.lookup f_term = some ⟨oc_term, od_term, .func (PySem.W.fnOf "take_term" "Reader.take_term" (defArgs s_Reader_take_term) (defBody s_Reader_take_term) (defScope s_Reader_take_term) .none kV_term dc_term pm_term an_term cd_term ct_term), sl_term⟩)
    (c_term : PySem.W.codeIn K cd_term "Reader.take_term" = true)
    (k_term : PySem.W.keepIn K (.ref f_term) = true)
    (a_heads : PySem.W.nsIn K mainGlobals "heads_of" = some (some (.ref f_heads)))
    (l_heads : K.lookup f_heads = some ⟨oc_heads, od_heads, .func (PySem.W.fnOf "heads_of" "heads_of" (defArgs s_heads_of) (defBody s_heads_of) (defScope s_heads_of) .none kV_heads dc_heads pm_heads an_heads cd_heads ct_heads), sl_heads⟩)
    (c_heads : PySem.W.codeIn K cd_heads "heads_of" = true)
    (k_heads : PySem.W.keepIn K (.ref f_heads) = true)
    (a_unk : PySem.W.nsIn K mainGlobals "unknowns_of" = some (some (.ref f_unk)))
    (l_unk : K.lookup f_unk = some ⟨oc_unk, od_unk, .func (PySem.W.fnOf "unknowns_of" "unknowns_of" (defArgs s_unknowns_of) (defBody s_unknowns_of) (defScope s_unknowns_of) .none kV_unk dc_unk pm_unk an_unk cd_unk ct_unk), sl_unk⟩)
    (c_unk : PySem.W.codeIn K cd_unk "unknowns_of" = true)
    (k_unk : PySem.W.keepIn K (.ref f_unk) = true)
    (a_whole : PySem.W.nsIn K mainGlobals "take_whole_terms" = some (some (.ref f_whole)))
    (l_whole : K.lookup f_whole = some ⟨oc_whole, od_whole, .func (PySem.W.fnOf "take_whole_terms" "take_whole_terms" (defArgs s_take_whole_terms) (defBody s_take_whole_terms) (defScope s_take_whole_terms) .none kV_whole dc_whole pm_whole an_whole cd_whole ct_whole), sl_whole⟩)
    (c_whole : PySem.W.codeIn K cd_whole "take_whole_terms" = true)
    (k_whole : PySem.W.keepIn K (.ref f_whole) = true)
    (a_part : PySem.W.nsIn K mainGlobals "take_part" = some (some (.ref f_part)))
    (l_part : K.lookup f_part = some ⟨oc_part, od_part, .func (PySem.W.fnOf "take_part" "take_part" (defArgs s_take_part) (defBody s_take_part) (defScope s_take_part) .none kV_part dc_part pm_part an_part cd_part ct_part), sl_part⟩)
    (c_part : PySem.W.codeIn K cd_part "take_part" = true)
    (k_part : PySem.W.keepIn K (.ref f_part) = true)
    (a_parts : PySem.W.nsIn K mainGlobals "take_parts" = some (some (.ref f_parts)))
    (l_parts : K.lookup f_parts = some ⟨oc_parts, od_parts, .func (PySem.W.fnOf "take_parts" "take_parts" (defArgs s_take_parts) (defBody s_take_parts) (defScope s_take_parts) .none kV_parts dc_parts pm_parts an_parts cd_parts ct_parts), sl_parts⟩)
    (c_parts : PySem.W.codeIn K cd_parts "take_parts" = true)
    (k_parts : PySem.W.keepIn K (.ref f_parts) = true)
    (a_read : PySem.W.nsIn K mainGlobals "read_talk" = some (some (.ref f_read)))
    (l_read : K.lookup f_read = some ⟨oc_read, od_read, .func (PySem.W.fnOf "read_talk" "read_talk" (defArgs s_read_talk) (defBody s_read_talk) (defScope s_read_talk) .none kV_read dc_read pm_read an_read cd_read ct_read), sl_read⟩)
    (c_read : PySem.W.codeIn K cd_read "read_talk" = true)
    (k_read : PySem.W.keepIn K (.ref f_read) = true)
    (a_answer : PySem.W.nsIn K mainGlobals "answer" = some (some (.ref f_answer)))
    (l_answer : K.lookup f_answer = some ⟨oc_answer, od_answer, .func (PySem.W.fnOf "answer" "answer" (defArgs s_answer) (defBody s_answer) (defScope s_answer) .none kV_answer dc_answer pm_answer an_answer cd_answer ct_answer), sl_answer⟩)
    (c_answer : PySem.W.codeIn K cd_answer "answer" = true)
    (k_answer : PySem.W.keepIn K (.ref f_answer) = true)
    (a_check : PySem.W.nsIn K mainGlobals "check" = some (some (.ref f_check)))
    (l_check : K.lookup f_check = some ⟨oc_check, od_check, .func (PySem.W.fnOf "check" "check" (defArgs s_check) (defBody s_check) (defScope s_check) .none kV_check dc_check pm_check an_check (.ref cMain) ct_check), sl_check⟩)
    (c_check : PySem.W.codeIn K (.ref cMain) "check" = true)
    (k_check : PySem.W.keepIn K (.ref f_check) = true)
    (v_NAME : PySem.W.nsIn K mainGlobals "NAME" = some (some (.int 0 tk_NAME)))
    (v_UNKNOWN : PySem.W.nsIn K mainGlobals "UNKNOWN" = some (some (.int 7 tk_UNKNOWN)))
    (v_GETS : PySem.W.nsIn K mainGlobals "GETS" = some (some (.int 0 tk_GETS)))
    (v_ENDS : PySem.W.nsIn K mainGlobals "ENDS" = some (some (.int 3 tk_ENDS)))
    (v_LAST_NAME : PySem.W.nsIn K mainGlobals "LAST_NAME" = some (some (.int 15 tk_LAST_NAME)))
    (v_LAST_UNKNOWN : PySem.W.nsIn K mainGlobals "LAST_UNKNOWN" = some (some (.int 3 tk_LAST_UNKNOWN)))
    (v_MOST_BYTES : PySem.W.nsIn K mainGlobals "MOST_BYTES" = some (some (.int 512 tk_MOST_BYTES)))
    (v_MOST_KNOWN : PySem.W.nsIn K mainGlobals "MOST_KNOWN" = some (some (.int 8 tk_MOST_KNOWN)))
    (v_MOST_PARTS : PySem.W.nsIn K mainGlobals "MOST_PARTS" = some (some (.int 4 tk_MOST_PARTS)))
    (v_MOST_EVENTS : PySem.W.nsIn K mainGlobals "MOST_EVENTS" = some (some (.int 6 tk_MOST_EVENTS)))
    (v_MOST_SECRETS : PySem.W.nsIn K mainGlobals "MOST_SECRETS" = some (some (.int 4 tk_MOST_SECRETS)))
    (v_NOTHING : PySem.W.nsIn K mainGlobals "NOTHING" = some (some (.int (-1) tk_NOTHING)))
    (v_OUT_OF_BOUNDS : PySem.W.nsIn K mainGlobals "OUT_OF_BOUNDS" = some (some (.int (-2) tk_OUT_OF_BOUNDS)))
    (v_NO_TALK : PySem.W.nsIn K mainGlobals "NO_TALK" = some (some (.int (-3) tk_NO_TALK)))
    (v_MORE_THAN_MOST : PySem.W.nsIn K mainGlobals "MORE_THAN_MOST" = some (some (.int (-4) tk_MORE_THAN_MOST)))
    (v_NO_WAY : PySem.W.nsIn K mainGlobals "NO_WAY" = some (some (.int (-5) tk_NO_WAY)))
    (v_NO_TERM : PySem.W.nsIn K mainGlobals "NO_TERM" = some (some (.int (-6) tk_NO_TERM)))
    (z_len : PySem.W.nsIn K mainGlobals "len" = some none)
    (z_range : PySem.W.nsIn K mainGlobals "range" = some none)
    (z_sorted : PySem.W.nsIn K mainGlobals "sorted" = some none)
    (z_tuple : PySem.W.nsIn K mainGlobals "tuple" = some none)
    (z_set : PySem.W.nsIn K mainGlobals "set" = some none)
    (z_sum : PySem.W.nsIn K mainGlobals "sum" = some none)
    (g_IT : PySem.W.nsIn K mainGlobals "INNER_TERMS" = some (some (.ref IT)))
    (l_IT : K.lookup IT = some ⟨.type "tuple", od_IT, .seq #[.int 0 u0, .int 2 u1, .int 2 u2, .int 2 u3, .int 1 u4, .int 1 u5, .int 2 u6, .int 0 u7] n_IT, sl_IT⟩)
    (l_code : K.lookup cMain = some ⟨.type "code", od_code, .fields vs_code, sl_code⟩)
    (p_code : vs_code[11]? = some (.ref Pt))
    (q18 : vs_code.getD 18 .none = .str s18 t18)
    (q7 : vs_code.getD 7 .none = .int i7 t7)
    (q9 : vs_code.getD 9 .none = .bool b9)
    (q10 : vs_code.getD 10 .none = .int i10 t10)
    (ne_code : (cMain != Pt) = true)
    (n_tabs : PySem.W.noTabs K = true) :
    ∃ (c Q : Addr) (fd : FuncData), PySem.W.tabIn K "check" = some (c, Q) ∧ PySem.W.noTabs K = true ∧ (∀ (s : Shared) (us : List Value), us.length = ["talk"].length → BindsTo s fd ⟨us, []⟩ ((["talk"] : List Str).zip us)) ∧
      ∀ (as : List AI) (base : Heap), K.In base → base.Ns mainGlobals mg → base.BuiltinsAt mg Q → FnOk pg w K mg base CX0 8 fa fd ["talk"] (spCk K Q) := by
  have e := hfa.symm.trans (PySem.W.mg_of X G a_check)
  cases e
  have t_main : PySem.W.tabIn K "check" = some (cMain, Pt) := tabIn_mk a_check l_check rfl l_code p_code
  have h_main : PySem.W.codeHdIn K cMain Pt = true := codeHd_mk l_code p_code q18 q7 q9 q10 ne_code
  have F_tinit := fun_mk (st := s_Talk_init) l_tinit c_tinit k_tinit
  have b_tinit := F_tinit.binds (ps := ["self", "known", "parts", "secrets"]) fun _ _ _ _ _ _ us hl => match us, hl with | [_, _, _, _], _ => rfl
  have F_rinit := fun_mk (st := s_Reader_init) l_rinit c_rinit k_rinit
  have b_rinit := F_rinit.binds (ps := ["self", "numbers"]) fun _ _ _ _ _ _ us hl => match us, hl with | [_, _], _ => rfl
  have F_atend := fun_mk (st := s_Reader_at_end) l_atend c_atend k_atend
  have b_atend := F_atend.binds (ps := ["self"]) fun _ _ _ _ _ _ us hl => match us, hl with | [_], _ => rfl
  have F_take := fun_mk (st := s_Reader_take) l_take c_take k_take
  have b_take := F_take.binds (ps := ["self", "most"]) fun _ _ _ _ _ _ us hl => match us, hl with | [_, _], _ => rfl
  have F_term := fun_mk (st := s_Reader_take_term) l_term c_term k_term
  have b_term := F_term.binds (ps := ["self"]) fun _ _ _ _ _ _ us hl => match us, hl with | [_], _ => rfl
  have F_heads := fun_mk (st := s_heads_of) l_heads c_heads k_heads
  have b_heads := F_heads.binds (ps := ["term"]) fun _ _ _ _ _ _ us hl => match us, hl with | [_], _ => rfl
  have F_unk := fun_mk (st := s_unknowns_of) l_unk c_unk k_unk
  have b_unk := F_unk.binds (ps := ["term"]) fun _ _ _ _ _ _ us hl => match us, hl with | [_], _ => rfl
  have F_whole := fun_mk (st := s_take_whole_terms) l_whole c_whole k_whole
  have b_whole := F_whole.binds (ps := ["reader", "most"]) fun _ _ _ _ _ _ us hl => match us, hl with | [_, _], _ => rfl
  have F_part := fun_mk (st := s_take_part) l_part c_part k_part
  have b_part := F_part.binds (ps := ["reader"]) fun _ _ _ _ _ _ us hl => match us, hl with | [_], _ => rfl
  have F_parts := fun_mk (st := s_take_parts) l_parts c_parts k_parts
  have b_parts := F_parts.binds (ps := ["reader"]) fun _ _ _ _ _ _ us hl => match us, hl with | [_], _ => rfl
  have F_read := fun_mk (st := s_read_talk) l_read c_read k_read
  have b_read := F_read.binds (ps := ["talk"]) fun _ _ _ _ _ _ us hl => match us, hl with | [_], _ => rfl
  have F_answer := fun_mk (st := s_answer) l_answer c_answer k_answer
  have b_answer := F_answer.binds (ps := ["talk", "reply"]) fun _ _ _ _ _ _ us hl => match us, hl with | [_, _], _ => rfl
  have hz8 : (8 : Nat) ≤ sizeLine := by decide
  have T : Txt K mg ⟨CT, CR, XL, XN, IT, XO, XM, XW, XT, 0, 0, 0, 0, 0⟩ := {
    clR := ⟨pg_CR, hd_CR, po_CR, sa_CR⟩, nNum := n_CR_numbers, nPl := n_CR_place, mgR := PySem.W.mg_of X G g_CR,
    clT := ⟨pg_CT, hd_CT, po_CT, sa_CT⟩, nKn := n_CT_known, nPa := n_CT_parts, nSe := n_CT_secrets, mgT := PySem.W.mg_of X G g_CT,
    mgL := PySem.W.mg_of X G g_XL, mgN := PySem.W.mg_of X G g_XN, exL := ex_XL, exN := ex_XN, tab := PySem.W.mg_of X G g_IT,
    sq := fun H => .inr ⟨_, _, _, l_IT, rfl, rfl, hz8, .cons ⟨_, rfl⟩ (.cons ⟨_, rfl⟩ (.cons ⟨_, rfl⟩ (.cons ⟨_, rfl⟩ (.cons ⟨_, rfl⟩ (.cons ⟨_, rfl⟩ (.cons ⟨_, rfl⟩ (.cons ⟨_, rfl⟩ .nil)))))))⟩,
    kNAME := ⟨_, PySem.W.mg_of X G v_NAME⟩, kUNKNOWN := ⟨_, PySem.W.mg_of X G v_UNKNOWN⟩, kGETS := ⟨_, PySem.W.mg_of X G v_GETS⟩, kENDS := ⟨_, PySem.W.mg_of X G v_ENDS⟩, kLN := ⟨_, PySem.W.mg_of X G v_LAST_NAME⟩, kLU := ⟨_, PySem.W.mg_of X G v_LAST_UNKNOWN⟩,
    kMB := ⟨_, PySem.W.mg_of X G v_MOST_BYTES⟩, kMK := ⟨_, PySem.W.mg_of X G v_MOST_KNOWN⟩, kMP := ⟨_, PySem.W.mg_of X G v_MOST_PARTS⟩, kME := ⟨_, PySem.W.mg_of X G v_MOST_EVENTS⟩, kMS := ⟨_, PySem.W.mg_of X G v_MOST_SECRETS⟩, kNO := ⟨_, PySem.W.mg_of X G v_NOTHING⟩,
    len := PySem.W.mg_none_of X G z_len, range := PySem.W.mg_none_of X G z_range, sorted := PySem.W.mg_none_of X G z_sorted, tuple := PySem.W.mg_none_of X G z_tuple, set := PySem.W.mg_none_of X G z_set }
  have D : TxtD K mg ⟨CT, CR, XL, XN, IT, XO, XM, XW, XT, 0, 0, 0, 0, 0⟩ := {
    mgO := PySem.W.mg_of X G g_XO, mgM := PySem.W.mg_of X G g_XM, mgW := PySem.W.mg_of X G g_XW, mgT := PySem.W.mg_of X G g_XT,
    kOB := ⟨_, PySem.W.mg_of X G v_OUT_OF_BOUNDS⟩, kNT := ⟨_, PySem.W.mg_of X G v_NO_TALK⟩, kMM := ⟨_, PySem.W.mg_of X G v_MORE_THAN_MOST⟩, kNW := ⟨_, PySem.W.mg_of X G v_NO_WAY⟩, kNR := ⟨_, PySem.W.mg_of X G v_NO_TERM⟩,
    ap := ⟨m_XL_XL, by
      intro D hD
      simp only [List.mem_cons, List.not_mem_nil, or_false] at hD
      rcases hD with rfl | rfl | rfl | rfl | rfl
      · exact m_XN_XL
      · exact m_XO_XL
      · exact m_XM_XL
      · exact m_XW_XL
      · exact m_XT_XL, m_XN_XN, by
      intro D hD
      simp only [List.mem_cons, List.not_mem_nil, or_false] at hD
      rcases hD with rfl | rfl | rfl | rfl
      · exact m_XO_XN
      · exact m_XM_XN
      · exact m_XW_XN
      · exact m_XT_XN, m_XO_XO, by
      intro D hD
      simp only [List.mem_cons, List.not_mem_nil, or_false] at hD
      rcases hD with rfl | rfl | rfl
      · exact m_XM_XO
      · exact m_XW_XO
      · exact m_XT_XO, m_XM_XM, by
      intro D hD
      simp only [List.mem_cons, List.not_mem_nil, or_false] at hD
      rcases hD with rfl | rfl
      · exact m_XW_XM
      · exact m_XT_XM, m_XW_XW, by
      intro D hD
      simp only [List.mem_cons, List.not_mem_nil, or_false] at hD
      subst hD
      exact m_XT_XW, m_XT_XT, by
      intro D hD
      simp at hD, trivial⟩ }
  refine ⟨cMain, Pt, PySem.W.fnOf "check" "check" (defArgs s_check) (defBody s_check) (defScope s_check) .none kV_check dc_check pm_check an_check (.ref cMain) ct_check, t_main, n_tabs, fun s us hl => ?_, fun as base KB GB BB => ?_⟩
  · match us, hl with
    | [_], _ => exact .of_eq rfl
  have G2 : FnOk pg w K mg base CX0 1 f_rinit _ ["self", "numbers"] (spRInit CR) := ok_rinit F_rinit T
  have G3 : FnOk pg w K mg base CX0 1 f_atend _ ["self"] (spAtEnd K CR) := ok_atend F_atend T
  have G4 : FnOk pg w K mg base (CXe pg w) 2 f_take _ ["self", "most"] (spTake K CR XN) := ok_take F_take T F_atend b_atend ⟨a_atend, i_atend, k_atend⟩
  have G5 : FnOk pg w K mg base (CXe pg w) 3 f_term _ ["self"] (spTerm K CR XN) := ok_term F_term T G4 b_take ⟨a_take, i_take, k_take⟩
  have GH : FnOk pg w K mg base CX0 1 f_heads _ ["term"] spHeads := ok_heads F_heads T
  have G6 : FnOk pg w K mg base CX0 2 f_unk _ ["term"] spUnk := ok_unk F_unk T GH b_heads (PySem.W.mg_of X G a_heads) k_heads
  have G7 : FnOk pg w K mg base (CXe pg w) 4 f_whole _ ["reader", "most"] (spWhole K CR XN) := ok_whole F_whole T G4 b_take ⟨a_take, i_take, k_take⟩ G5 b_term ⟨a_term, i_term, k_term⟩ G6 b_unk (PySem.W.mg_of X G a_unk) k_unk
  have G8 : FnOk pg w K mg base (CXe pg w) 4 f_part _ ["reader"] (spPart K CR XN) := ok_part F_part T G4 b_take ⟨a_take, i_take, k_take⟩ G5 b_term ⟨a_term, i_term, k_term⟩ G6 b_unk (PySem.W.mg_of X G a_unk) k_unk
  have G9 : FnOk pg w K mg base (CXe pg w) 5 f_parts _ ["reader"] (spParts K CR XN) := ok_parts F_parts T G4 b_take ⟨a_take, i_take, k_take⟩ G8 b_part (PySem.W.mg_of X G a_part) k_part
  have G1 : FnOk pg w K mg base CX0 1 f_tinit _ ["self", "known", "parts", "secrets"] (spTInit CT) := ok_tinit F_tinit T
  have G10 : FnOk pg w K mg base (CXe pg w) 6 f_read _ ["talk"] (spRead K CT XL XN) := ok_read F_read T ⟨mk_CR, a_rinit, i_rinit, kc_CR⟩ G2 b_rinit G7 b_whole (PySem.W.mg_of X G a_whole) k_whole G9 b_parts (PySem.W.mg_of X G a_parts) k_parts G3 b_atend ⟨a_atend, i_atend, k_atend⟩ ⟨mk_CT, a_tinit, i_tinit, kc_CT⟩ G1 b_tinit
  have bL : ∀ (c' : Addr) (ctv : Value), Binds K (PySem.W.kla_fn "<lambda>" lqual (lamArgs s_check) (lamBody s_check) (lamScope s_check) [] ((mg "__name__").getD .none) (.ref c') ctv) ["found"] [] := fun c' ctv => .all fun us hl => match us, hl with | [_], _ => rfl
  exact ok_check l_check c_check T h_main KB BB (fun fL c' ctv => ok_answer F_answer T D G10 b_read (PySem.W.mg_of X G a_read) k_read (ok_lamCk T (PySem.W.mg_none_of X G z_sum)) (bL c' ctv) (by decide) (by decide) (fun vs H Q E E' _ h => h)) b_answer (PySem.W.mg_of X G a_answer) k_answer
theorem bV_ns {ns : List Int} (h : ∀ n ∈ ns, 0 ≤ n) : ns.map V.int = bV (ns.map Int.toNat) := by
  unfold bV
  rw [List.map_map]
  refine List.map_congr_left fun n hn => ?_
  show V.int n = V.int ((n.toNat : Nat) : Int)
  rw [Int.toNat_of_nonneg (h n hn)]
def Pre (as : List AI) : Prop := ∃ ns : List Int, as = [.l ns] ∧ ∀ n ∈ ns, 0 ≤ n
def Post (as : List AI) (ns' : List Int) : Prop := ∃ ns : List Int, as = [.l ns] ∧ ns' = [ans (ns.map Int.toNat)]
theorem walk {r : PySem.W.OpenSpec} {q : Program} {loose : List Str} {XP : (Str → Option Value) → Heap → Prop} {YP : World → Heap → Prop} {d : DefRec} {K : Params → PySem.W.Frag}
    (hpre : ∀ args, r.pre args = true → ∃ as : List AI, args = as.map AI.wd ∧ as.length = ["talk"].length ∧ (∀ a ∈ as, a.ok) ∧ Pre as) (hpost : ∀ as ns', Pre as → Post as ns' → r.pre (as.map AI.wd) = true → r.post (as.map AI.wd) (.list (ns'.map .int)) = true)
    (hdf : d.params.defaults = []) (hfind : (PyProof.Rows.recsOf q).find? (fun e => e.name == d.name) = some d) (hY : ∀ (w : World) (h : Heap), YP w h → (K w.params).In h)
    (F : ∀ (w : World) (mg : Str → Option Value) (fa : Addr) (h : Heap), (K w.params).In h → h.Ns mainGlobals mg → mg d.name = some (.ref fa) →
      ∃ (c Q : Addr) (fd : FuncData), PySem.W.tabIn (K w.params) d.name = some (c, Q) ∧ PySem.W.noTabs (K w.params) = true ∧ (∀ (s : Shared) (us : List Value), us.length = ["talk"].length → BindsTo s fd ⟨us, []⟩ ((["talk"] : List Str).zip us)) ∧
        ∀ (as : List AI) (base : Heap), (K w.params).In base → base.Ns mainGlobals mg → base.BuiltinsAt mg Q → FnOk r.prog w (K w.params) mg base CX0 8 fa fd ["talk"] (spCk (K w.params) Q)) :
    PySem.W.WalkOS q loose XP YP r d [] (fun f vs => PySem.call f vs) :=
  walk_specN (k := 8) (ps := ["talk"]) (CX := fun _ => CX0) (sp := fun w Q _ => spCk (K w.params) Q) (Pre := Pre) (Post := Post) hpre hpost hdf hfind ⟨rfl, by decide, by decide⟩ hY F
    (fun w Q H as vs pre ha hP => by
      obtain ⟨ns, rfl, hn⟩ := pre
      cases ha with
      | cons h1 h2 =>
        cases h2
        obtain ⟨a, rfl, hs⟩ := h1
        exact ⟨a, ns.map Int.toNat, rfl, by rw [← bV_ns hn]; exact hs, hP, fun q H' hq => ⟨q, [ans (ns.map Int.toNat)], rfl, hq, ns, rfl, rfl⟩⟩) fun _ _ _ _ _ z => z
theorem said : PySem.Challenge.rw_talkwatch_s01_check.wellSaid = true := by decide +kernel
theorem pre_of : ∀ args, PySem.Challenge.rw_talkwatch_s01_check.pre args = true → ∃ as : List AI, args = as.map AI.wd ∧ as.length = ["talk"].length ∧ (∀ a ∈ as, a.ok) ∧ Pre as := by
  intro args h
  obtain ⟨⟨ns, u⟩, hw, _, e⟩ := (PySem.W.OpenSpec.pre_iff said args).mp h
  have hw1 : PySem.W.Codec.within (.list 0 600 (.int 0 255)) ns = true := (PySem.W.Codec.and_of hw).1
  have hl : (decide (0 ≤ ns.length) && decide (ns.length ≤ 600)) = true ∧ ns.all (PySem.W.Codec.inInt 0 255) = true := PySem.W.Codec.and_of hw1
  refine ⟨[.l ns], e, rfl, fun a ha => ?_, ns, rfl, fun n hn => (PySem.W.Codec.inInt_iff.mp (List.all_eq_true.mp hl.2 n hn)).1⟩
  rw [List.mem_singleton.mp ha]
  have z := of_decide_eq_true (PySem.W.Codec.and_of hl.1).2
  exact Nat.le_trans z (by decide)
theorem post_of : ∀ as ns', Pre as → Post as ns' → PySem.Challenge.rw_talkwatch_s01_check.pre (as.map AI.wd) = true → PySem.Challenge.rw_talkwatch_s01_check.post (as.map AI.wd) (.list (ns'.map .int)) = true := by
  intro as ns' _ po h
  obtain ⟨ns, rfl, e⟩ := po
  obtain ⟨⟨ms, u⟩, hw, _, e2⟩ := (PySem.W.OpenSpec.pre_iff said _).mp h
  have e3 : ([.list (ns.map .int)] : List PySem.W.WData) = [.list (ms.map .int)] := e2
  have e4 : ns = ms := PySem.W.Codec.map_inj PySem.W.WData.int (fun _ _ z => PySem.W.WData.int.inj z) _ _ (PySem.W.WData.list.inj (List.cons.inj e3).1)
  subst e4
  refine (PySem.W.OpenSpec.post_iff said hw (.list (ns'.map .int)) []).mpr ?_
  subst e
  show PySem.W.WData.list ([ans (ns.map Int.toNat)].map .int) = PySem.W.WData.list ((PySa91.check ns).map .int)
  rw [check_ans]
end Tw
open PySem PySem.W PyProof.Rows
set_option maxRecDepth 100000 in
set_option maxHeartbeats 0 in
theorem PySem.Challenge.cw_talkwatch_s01_check_holds : PySem.Challenge.rw_talkwatch_s01_check.Holds := by
  w_on; k_headS; (case hw => exact ⟨[.list []], by decide +kernel, by decide +kernel⟩)
  k_fillS
  refine Tw.walk (r := PySem.Challenge.rw_talkwatch_s01_check) Tw.pre_of Tw.post_of rfl (by rfl) (fun w h Y => PySem.W.kIn_of Y) ?F
  case F =>
    intro w mg fa h KX G hmg
    refine' Tw.all_mk KX G hmg ?g_CT ?pg_CT ?hd_CT ?po_CT ?sa_CT ?mk_CT ?kc_CT ?n_CT_known ?n_CT_parts ?n_CT_secrets ?g_CR ?pg_CR ?hd_CR ?po_CR ?sa_CR ?mk_CR ?kc_CR ?n_CR_numbers ?n_CR_place ?g_XL ?ex_XL ?g_XN ?ex_XN ?g_XO ?g_XM ?g_XW ?g_XT ?m_XL_XL ?m_XN_XL ?m_XN_XN ?m_XO_XL ?m_XO_XN ?m_XO_XO ?m_XM_XL ?m_XM_XN ?m_XM_XO ?m_XM_XM ?m_XW_XL ?m_XW_XN ?m_XW_XO ?m_XW_XM ?m_XW_XW ?m_XT_XL ?m_XT_XN ?m_XT_XO ?m_XT_XM ?m_XT_XW ?m_XT_XT ?a_tinit ?i_tinit ?l_tinit ?c_tinit ?k_tinit ?a_rinit ?i_rinit ?l_rinit ?c_rinit ?k_rinit ?a_atend ?i_atend ?l_atend ?c_atend ?k_atend ?a_take ?i_take ?l_take ?c_take ?k_take ?a_term ?i_term ?l_term ?c_term ?k_term ?a_heads ?l_heads ?c_heads ?k_heads ?a_unk ?l_unk ?c_unk ?k_unk ?a_whole ?l_whole ?c_whole ?k_whole ?a_part ?l_part ?c_part ?k_part ?a_parts ?l_parts ?c_parts ?k_parts ?a_read ?l_read ?c_read ?k_read ?a_answer ?l_answer ?c_answer ?k_answer ?a_check ?l_check ?c_check ?k_check ?v_NAME ?v_UNKNOWN ?v_GETS ?v_ENDS ?v_LAST_NAME ?v_LAST_UNKNOWN ?v_MOST_BYTES ?v_MOST_KNOWN ?v_MOST_PARTS ?v_MOST_EVENTS ?v_MOST_SECRETS ?v_NOTHING ?v_OUT_OF_BOUNDS ?v_NO_TALK ?v_MORE_THAN_MOST ?v_NO_WAY ?v_NO_TERM ?z_len ?z_range ?z_sorted ?z_tuple ?z_set ?z_sum ?g_IT ?l_IT ?l_code ?p_code ?q18 ?q7 ?q9 ?q10 ?ne_code ?n_tabs
    (case g_CT => k_is)
    (case pg_CT => k_is)
    (case hd_CT => k_is)
    (case po_CT => k_is)
    (case sa_CT => k_is)
    (case mk_CT => k_is)
    (case kc_CT => k_is)
    (case n_CT_known => k_is)
    (case n_CT_parts => k_is)
    (case n_CT_secrets => k_is)
    (case g_CR => k_is)
    (case pg_CR => k_is)
    (case hd_CR => k_is)
    (case po_CR => k_is)
    (case sa_CR => k_is)
    (case mk_CR => k_is)
    (case kc_CR => k_is)
    (case n_CR_numbers => k_is)
    (case n_CR_place => k_is)
    (case g_XL => k_is)
    (case ex_XL => k_exc)
    (case g_XN => k_is)
    (case ex_XN => k_exc)
    (case g_XO => k_is)
    (case g_XM => k_is)
    (case g_XW => k_is)
    (case g_XT => k_is)
    (case m_XL_XL => kts_exm)
    (case m_XN_XL => kts_exm)
    (case m_XN_XN => kts_exm)
    (case m_XO_XL => kts_exm)
    (case m_XO_XN => kts_exm)
    (case m_XO_XO => kts_exm)
    (case m_XM_XL => kts_exm)
    (case m_XM_XN => kts_exm)
    (case m_XM_XO => kts_exm)
    (case m_XM_XM => kts_exm)
    (case m_XW_XL => kts_exm)
    (case m_XW_XN => kts_exm)
    (case m_XW_XO => kts_exm)
    (case m_XW_XM => kts_exm)
    (case m_XW_XW => kts_exm)
    (case m_XT_XL => kts_exm)
    (case m_XT_XN => kts_exm)
    (case m_XT_XO => kts_exm)
    (case m_XT_XM => kts_exm)
    (case m_XT_XW => kts_exm)
    (case m_XT_XT => kts_exm)
    (case a_tinit => k_is)
    (case i_tinit => k_is)
    (case l_tinit => k_is)
    (case c_tinit => k_is)
    (case k_tinit => k_is)
    (case a_rinit => k_is)
    (case i_rinit => k_is)
    (case l_rinit => k_is)
    (case c_rinit => k_is)
    (case k_rinit => k_is)
    (case a_atend => k_is)
    (case i_atend => k_is)
    (case l_atend => k_is)
    (case c_atend => k_is)
    (case k_atend => k_is)
    (case a_take => k_is)
    (case i_take => k_is)
    (case l_take => k_is)
    (case c_take => k_is)
    (case k_take => k_is)
    (case a_term => k_is)
    (case i_term => k_is)
    (case l_term => k_is)
    (case c_term => k_is)
    (case k_term => k_is)
    (case a_heads => k_is)
    (case l_heads => k_is)
    (case c_heads => k_is)
    (case k_heads => k_is)
    (case a_unk => k_is)
    (case l_unk => k_is)
    (case c_unk => k_is)
    (case k_unk => k_is)
    (case a_whole => k_is)
    (case l_whole => k_is)
    (case c_whole => k_is)
    (case k_whole => k_is)
    (case a_part => k_is)
    (case l_part => k_is)
    (case c_part => k_is)
    (case k_part => k_is)
    (case a_parts => k_is)
    (case l_parts => k_is)
    (case c_parts => k_is)
    (case k_parts => k_is)
    (case a_read => k_is)
    (case l_read => k_is)
    (case c_read => k_is)
    (case k_read => k_is)
    (case a_answer => k_is)
    (case l_answer => k_is)
    (case c_answer => k_is)
    (case k_answer => k_is)
    (case a_check => k_is)
    (case l_check => k_is)
    (case c_check => k_is)
    (case k_check => k_is)
    (case v_NAME => k_is)
    (case v_UNKNOWN => k_is)
    (case v_GETS => k_is)
    (case v_ENDS => k_is)
    (case v_LAST_NAME => k_is)
    (case v_LAST_UNKNOWN => k_is)
    (case v_MOST_BYTES => k_is)
    (case v_MOST_KNOWN => k_is)
    (case v_MOST_PARTS => k_is)
    (case v_MOST_EVENTS => k_is)
    (case v_MOST_SECRETS => k_is)
    (case v_NOTHING => k_is)
    (case v_OUT_OF_BOUNDS => k_is)
    (case v_NO_TALK => k_is)
    (case v_MORE_THAN_MOST => k_is)
    (case v_NO_WAY => k_is)
    (case v_NO_TERM => k_is)
    (case z_len => k_is)
    (case z_range => k_is)
    (case z_sorted => k_is)
    (case z_tuple => k_is)
    (case z_set => k_is)
    (case z_sum => k_is)
    (case g_IT => k_is)
    (case l_IT => k_is)
    (case l_code => k_is)
    (case p_code => rfl)
    (case q18 => rfl)
    (case q7 => rfl)
    (case q9 => rfl)
    (case q10 => rfl)
    (case ne_code => rfl)
    (case n_tabs => kernel_rfl)
#print axioms PySem.Challenge.cw_talkwatch_s01_check_holds
